import PyProof.Rows.All
import Wide.All
import OpenK.AllK
import Wide.FinOn
import PyProof.EqAt
import PyProof.EqKinds
import PyProof.TupleCall
import HandS.Base
import HandS.Call
import HandS.List
import HandS.Comp
import HandS.Ends
import HandS.Text
import HandS.Iter
import HandS.Exc
import HandS.Words
import HandS.WordsExc
import HandS.Defaults
import HandS.Wide
import HandS.IsInst
import HandS.Walk
import HandS.Evl
import HandS.Steps
import HandS.ExcInit
import HandS.ExcOwn
import KE.KExcIs
import HandS.HeadHook4
import HandS.Head2
import HandS.HeadEnd
import HandS.HeadWalk
import HandS.ExcValue
import HandS.SetKeys
import HandS.Star
import HandS.Dict
import HandS.DictComp
import HandS.Deep
import HandS.Style
import HandS.ExcField
import HandS.TryOnly
import HandS.TryMany
import HandS.Zip
import HandS.Codes
import HandS.TupAny
import PyProof.StrBlock2
import HandS.HeadHook1
import HandS.TupMul
import HandS.Conv
import HandS.SortKw
import HandS.ExcIs
import HandS.RevRange
import HandS.More
import HandS.HeadHook2
import HandS.WideBits
import KE.KDictZip
import HandS.Rev
import HandS.RevTup
import KE.GoesMore
import KE.SortData
import KE.KDictKeyed
import KE.KDictCopyH
import HandS.Set
import HandS.WordsDict
import PySem.Challenge.RW_probewright_k01_circuits
set_option Elab.async false
set_option linter.all false
set_option maxRecDepth 100000
set_option maxHeartbeats 2000000
set_option maxHeartbeats 0
namespace Qw
open PySem PySem.Spec PyProof.Rows L2
open Evl hiding ea_cons
def oexB (K : PySem.W.Frag) (C : Addr) : Bool := (match K.lookup C with
  | some ⟨.type "type", _, .cls cd, sl⟩ => (match cd.mro, sl.toList with
    | .ref C' :: bm, [_, _, _, _, some (.builtin n), _] => C' == C && (n == "ValueError.__new__" && (!cd.hasDel && (cd.hasDict && PySem.HandSPX.refsVE bm)))
    | _, _ => false)
  | _ => false) && (decide (PySem.W.findIn K (.ref C) "__setattr__" = some (some (.builtin "object.__setattr__"))) && (decide (PySem.W.subIn K (.ref C) (.type "BaseException") = some true) && (decide (PySem.W.typeIn K (.ref C) = some (.type "type")) && PySem.W.keepIn K (.ref C))))
end Qw
namespace CC
open PySem PySem.Spec PyProof.Rows L2
open Evl hiding ea_cons
open Qw
def top (i : Nat) : Stmt := PySem.Challenge.pw_probewright_k01_circuits.main.body.getD i (.Pass ⟨0, 0, 0, 0⟩)
def bodyC (s : Stmt) : List Stmt := match s with | .ClassDef (body := bs) .. => bs | _ => []
def meth (i k : Nat) : Stmt := (bodyC (top i)).getD k (.Pass ⟨0, 0, 0, 0⟩)
def KIN : List Str := ["and", "or", "nand", "nor", "xor", "xnor", "not", "buf", "low", "high"]
abbrev s_is_name : Stmt := top 10
abbrev s_may_have : Stmt := top 13
abbrev s_are_names : Stmt := top 14
abbrev s_is_register : Stmt := top 15
abbrev s_is_gate : Stmt := top 16
abbrev s_check_form : Stmt := top 17
abbrev s_check_driven_once : Stmt := top 18
abbrev s_check_known : Stmt := top 19
abbrev s_check_size : Stmt := top 20
abbrev s_in_order : Stmt := top 21
abbrev s_Circuit_sources : Stmt := meth 22 2
abbrev s_Circuit_lines : Stmt := meth 22 1
abbrev s_Circuit_sinks : Stmt := meth 22 3
abbrev s_Circuit_parts : Stmt := meth 22 5
abbrev s_Circuit_init : Stmt := meth 22 0
abbrev s_Circuit_above : Stmt := meth 22 4
abbrev s_law_cell : Stmt := top 24
abbrev s_law_rich : Stmt := top 25
abbrev s_law_gate : Stmt := top 26
abbrev s_law_parts : Stmt := top 27
abbrev s_law_above : Stmt := top 29
abbrev s_law : Stmt := top 30
abbrev s_iBadCircuit : Stmt := meth 2 0
def dd_is_name : He.DefD := ⟨("is_name", none), "is_name", "is_name", defArgs s_is_name, defBody s_is_name, defScope s_is_name, [], []⟩
def dd_may_have : He.DefD := ⟨("_may_have", none), "_may_have", "_may_have", defArgs s_may_have, defBody s_may_have, defScope s_may_have, [], []⟩
def dd_are_names : He.DefD := ⟨("_are_names", none), "_are_names", "_are_names", defArgs s_are_names, defBody s_are_names, defScope s_are_names, [], []⟩
def dd_is_register : He.DefD := ⟨("_is_register", none), "_is_register", "_is_register", defArgs s_is_register, defBody s_is_register, defScope s_is_register, [], []⟩
def dd_is_gate : He.DefD := ⟨("is_gate", none), "is_gate", "is_gate", defArgs s_is_gate, defBody s_is_gate, defScope s_is_gate, [], []⟩
def dd_check_form : He.DefD := ⟨("_check_form", none), "_check_form", "_check_form", defArgs s_check_form, defBody s_check_form, defScope s_check_form, [], []⟩
def dd_check_driven_once : He.DefD := ⟨("_check_driven_once", none), "_check_driven_once", "_check_driven_once", defArgs s_check_driven_once, defBody s_check_driven_once, defScope s_check_driven_once, [], []⟩
def dd_check_known : He.DefD := ⟨("_check_known", none), "_check_known", "_check_known", defArgs s_check_known, defBody s_check_known, defScope s_check_known, [], []⟩
def dd_check_size : He.DefD := ⟨("_check_size", none), "_check_size", "_check_size", defArgs s_check_size, defBody s_check_size, defScope s_check_size, [], []⟩
def dd_in_order : He.DefD := ⟨("_in_order", none), "_in_order", "_in_order", defArgs s_in_order, defBody s_in_order, defScope s_in_order, [], []⟩
def dd_Circuit_lines : He.DefD := ⟨("Circuit", some "lines"), "lines", "Circuit.lines", defArgs s_Circuit_lines, defBody s_Circuit_lines, defScope s_Circuit_lines, [], []⟩
def dd_Circuit_sources : He.DefD := ⟨("Circuit", some "sources"), "sources", "Circuit.sources", defArgs s_Circuit_sources, defBody s_Circuit_sources, defScope s_Circuit_sources, [], []⟩
def dd_Circuit_sinks : He.DefD := ⟨("Circuit", some "sinks"), "sinks", "Circuit.sinks", defArgs s_Circuit_sinks, defBody s_Circuit_sinks, defScope s_Circuit_sinks, [], []⟩
def dd_Circuit_init : He.DefD := ⟨("Circuit", some "__init__"), "__init__", "Circuit.__init__", defArgs s_Circuit_init, defBody s_Circuit_init, defScope s_Circuit_init, [], []⟩
def dd_Circuit_above : He.DefD := ⟨("Circuit", some "above"), "above", "Circuit.above", defArgs s_Circuit_above, defBody s_Circuit_above, defScope s_Circuit_above, [], []⟩
def dd_Circuit_parts : He.DefD := ⟨("Circuit", some "parts"), "parts", "Circuit.parts", defArgs s_Circuit_parts, defBody s_Circuit_parts, defScope s_Circuit_parts, [], []⟩
def dd_law_cell : He.DefD := ⟨("_law_cell", none), "_law_cell", "_law_cell", defArgs s_law_cell, defBody s_law_cell, defScope s_law_cell, [], []⟩
def dd_law_rich : He.DefD := ⟨("_law_rich", none), "_law_rich", "_law_rich", defArgs s_law_rich, defBody s_law_rich, defScope s_law_rich, [], []⟩
def dd_law_gate : He.DefD := ⟨("_law_gate", none), "_law_gate", "_law_gate", defArgs s_law_gate, defBody s_law_gate, defScope s_law_gate, [], []⟩
def dd_law_parts : He.DefD := ⟨("_law_parts", none), "_law_parts", "_law_parts", defArgs s_law_parts, defBody s_law_parts, defScope s_law_parts, [], []⟩
def dd_law_above : He.DefD := ⟨("_law_above", none), "_law_above", "_law_above", defArgs s_law_above, defBody s_law_above, defScope s_law_above, [], []⟩
def dd_law : He.DefD := ⟨("law", none), "law", "law", defArgs s_law, defBody s_law, defScope s_law, [], []⟩
def dd_iBadCircuit : He.DefD := ⟨("BadCircuit", some "__init__"), "__init__", "BadCircuit.__init__", defArgs s_iBadCircuit, defBody s_iBadCircuit, defScope s_iBadCircuit, [], []⟩
def fnL : List He.DefD := [dd_is_name, dd_may_have, dd_are_names, dd_is_register, dd_is_gate, dd_check_form, dd_check_driven_once, dd_check_known, dd_check_size, dd_in_order, dd_Circuit_lines, dd_Circuit_sources, dd_Circuit_sinks, dd_Circuit_init, dd_Circuit_above, dd_Circuit_parts, dd_law_cell, dd_law_rich, dd_law_gate, dd_law_parts, dd_law_above, dd_law, dd_iBadCircuit]
def faL : List He.Fa := [.glo "is_name", .glo "_may_have", .glo "_are_names", .glo "_is_register", .glo "is_gate", .glo "_check_form", .glo "_check_driven_once", .glo "_check_known", .glo "_check_size", .glo "_in_order", .glo "Circuit", .meth "Circuit" "lines", .meth "Circuit" "sources", .meth "Circuit" "sinks", .mkr "Circuit", .meth "Circuit" "above", .meth "Circuit" "parts", .glo "_law_cell", .glo "_law_rich", .glo "_law_gate", .glo "_law_parts", .glo "_law_above", .glo "law", .glo "BadCircuit", .noat "BadCircuit" "reason", .noat "BadCircuit" "name", .glo "KINDS", .cls "Circuit", .exm "BadCircuit" "BadCircuit" true, .noat "Circuit" "inputs", .noat "Circuit" "registers", .noat "Circuit" "gates", .noat "Circuit" "outputs", .noat "Circuit" "gate_of", .noat "Circuit" "order", .free "all", .free "int", .free "isinstance", .free "len", .free "list", .free "min", .free "range", .free "set", .free "sorted", .free "str", .free "tuple", .int "MOST_NAME" 12, .int "MOST_PINS" 4, .int "MOST_LINES" 400, .int "MOST_SOURCES" 40, .str "_LETTERS" "abcdefghijklmnopqrstuvwxyz", .str "_CHARACTERS" "abcdefghijklmnopqrstuvwxyz0123456789_"]
def kinD : List He.Dv := KIN.map He.Dv.str
def exB (K : PySem.W.Frag) : Bool := [oexB K (He.ga K "BadCircuit"), decide (PySem.W.findIn K (.ref (He.ga K "BadCircuit")) "__init__" = some (some (.ref (He.ma K (He.ga K "BadCircuit") "__init__")))), decide (PySem.W.typeIn K (.ref (He.ma K (He.ga K "BadCircuit") "__init__")) = some (.type "function")), xfB K (He.ga K "BadCircuit"), He.tupB K "KINDS" kinD].all id
abbrev RR : PySem.W.OpenRow := PySem.W.OpenLaw.row PySem.Challenge.rw_probewright_k01_circuits
abbrev hk : PySem.W.Hook := He.hookX 6 faL fnL [] [] exB
def ob (s : PySem.W.SharedT) : He.AlX := He.obsX 6 faL fnL [] [] exB (HandSHeadRun.getT s)
theorem ob_eq (s : PySem.W.SharedT) : ob s = hk.obs s.abs := He.obsX_eq (HandSHeadRun.getT_eq s)
def loose1 : List PySem.Str := (["ProbeError", "BadCircuit", "MOST_NAME", "MOST_PINS", "MOST_LINES", "MOST_SOURCES", "_LETTERS", "_CHARACTERS", "is_name", "KINDS", "_may_have", "_are_names", "_is_register", "is_gate", "_check_form", "_check_driven_once"] : List PySem.Str) ++ (["_check_known", "_check_size", "_in_order", "Circuit", "_law_cell", "_law_rich", "_law_gate", "_law_parts", "_law_circuit", "_law_above"] : List PySem.Str)
theorem run (w : World) : HandSHeadRun.RunEq RR (PySem.W.view RR.prog [30]) hk ob 12000 loose1 w := by
  intro os
  kernel_rfl
end CC
set_option maxHeartbeats 1000000
namespace Pw
open PySem PySem.Spec PyProof.Rows L2 Evl
inductive Dt where
  | non | bl (b : Bool) | int (i : Int) | str (x : Str)
  | tup (ds : List Dt) | lst (ds : List Dt)
  | dic (ks : List Key) (ds : List Dt) | dit (ks : List (List Key)) (ds : List Dt)
  | obj (C : Addr) (fs : List Str) (ds : List Dt)
  | exc (C : Addr) (fs : List Str) (ds : List Dt)
  | ty (n : String) | adr (a : Addr)
mutual
def Rp (K : PySem.W.Frag) (H : Hp) : Dt → V → Prop
  | .non, v => v = .non
  | .bl b, v => v = .bl b
  | .int i, v => v = .int i
  | .str x, v => v = .str x
  | .tup ds, v => ∃ a vs, v = .ref a ∧ SqT K H a vs ∧ RpL K H ds vs
  | .lst ds, v => ∃ a vs, v = .ref a ∧ SqL K H a vs ∧ RpL K H ds vs
  | .dic ks ds, v => ∃ a vs, v = .ref a ∧ H a = some (.dK (ks.zip vs)) ∧ ks.length = vs.length ∧ RpL K H ds vs
  | .dit ks ds, v => ∃ a vs, v = .ref a ∧ H a = some (.dT (ks.zip vs)) ∧ ks.length = vs.length ∧ RpL K H ds vs
  | .obj C fs ds, v => ∃ a dx vs, v = .ref a ∧ H a = some (.ins C dx (fs.zip vs)) ∧ fs.length = vs.length ∧ RpL K H ds vs
  | .exc C fs ds, v => ∃ a vs, v = .ref a ∧ fs.length = vs.length ∧ RpL K H ds vs ∧ ((fs = [] ∧ H a = some (exo a C none)) ∨ ∃ dx, H a = some (exo a C (some dx)) ∧ H dx = some (exd dx (fs.zip vs)))
  | .ty n, v => v = .ty n
  | .adr a, v => v = .ref a
def RpL (K : PySem.W.Frag) (H : Hp) : List Dt → List V → Prop
  | [], vs => vs = []
  | d :: ds, vs => ∃ v r, vs = v :: r ∧ Rp K H d v ∧ RpL K H ds r
end
section
variable {K : PySem.W.Frag} {F H F' H' : Hp}
mutual
theorem Rp.mono (e : Ex H H') : ∀ {d : Dt} {v : V}, Rp K H d v → Rp K H' d v
  | .non, _, h => h
  | .bl _, _, h => h
  | .int _, _, h => h
  | .str _, _, h => h
  | .tup ds, v, h => by
    obtain ⟨a, vs, e1, h1, h2⟩ := h
    exact ⟨a, vs, e1, ex_t e h1, RpL.mono e h2⟩
  | .lst ds, v, h => by
    obtain ⟨a, vs, e1, h1, h2⟩ := h
    exact ⟨a, vs, e1, ex_l e h1, RpL.mono e h2⟩
  | .dic ks ds, v, h => by
    obtain ⟨a, vs, e1, h1, h3, h2⟩ := h
    exact ⟨a, vs, e1, e _ _ h1, h3, RpL.mono e h2⟩
  | .dit ks ds, v, h => by
    obtain ⟨a, vs, e1, h1, h3, h2⟩ := h
    exact ⟨a, vs, e1, e _ _ h1, h3, RpL.mono e h2⟩
  | .obj C fs ds, v, h => by
    obtain ⟨a, dx, vs, e1, h1, h3, h2⟩ := h
    exact ⟨a, dx, vs, e1, e _ _ h1, h3, RpL.mono e h2⟩
  | .exc C fs ds, v, h => by
    obtain ⟨a, vs, e1, h3, h2, h1⟩ := h
    refine ⟨a, vs, e1, h3, RpL.mono e h2, ?_⟩
    rcases h1 with ⟨z, h1⟩ | ⟨dx, h1, h4⟩
    · exact .inl ⟨z, e _ _ h1⟩
    · exact .inr ⟨dx, e _ _ h1, e _ _ h4⟩
  | .ty _, _, h => h
  | .adr _, _, h => h
theorem RpL.mono (e : Ex H H') : ∀ {ds : List Dt} {vs : List V}, RpL K H ds vs → RpL K H' ds vs
  | [], _, h => h
  | d :: ds, vs, h => by
    obtain ⟨v, r, e1, h1, h2⟩ := h
    exact ⟨v, r, e1, Rp.mono e h1, RpL.mono e h2⟩
end
theorem RpL.nil : RpL K H [] [] := rfl
theorem RpL.cons {d : Dt} {ds : List Dt} {v : V} {vs : List V} (h : Rp K H d v) (t : RpL K H ds vs) : RpL K H (d :: ds) (v :: vs) := ⟨v, vs, rfl, h, t⟩
theorem RpL.length : ∀ {ds : List Dt} {vs : List V}, RpL K H ds vs → ds.length = vs.length
  | [], vs, h => by
    cases (show vs = [] from h)
    rfl
  | d :: ds, vs, h => by
    obtain ⟨v, r, rfl, _, t⟩ := h
    simp [RpL.length t]
theorem RpL.get : ∀ {ds : List Dt} {vs : List V} {i : Nat} {d : Dt}, RpL K H ds vs → ds[i]? = some d → ∃ v, vs[i]? = some v ∧ Rp K H d v
  | [], _, _, _, _, e => by simp at e
  | d :: ds, vs, 0, d', h, e => by
    obtain ⟨v, r, rfl, q, t⟩ := h
    simp at e
    subst e
    exact ⟨v, by simp, q⟩
  | d :: ds, vs, i + 1, d', h, e => by
    obtain ⟨v, r, rfl, q, t⟩ := h
    obtain ⟨w, h1, h2⟩ := RpL.get (i := i) t (by simpa using e)
    exact ⟨w, by simpa using h1, h2⟩
theorem RpL.getV : ∀ {ds : List Dt} {vs : List V} {i : Nat} {v : V}, RpL K H ds vs → vs[i]? = some v → ∃ d, ds[i]? = some d ∧ Rp K H d v
  | [], vs, _, _, h, e => by
    cases (show vs = [] from h)
    simp at e
  | d :: ds, vs, 0, w, h, e => by
    obtain ⟨v, r, rfl, q, t⟩ := h
    simp at e
    subst e
    exact ⟨d, by simp, q⟩
  | d :: ds, vs, i + 1, w, h, e => by
    obtain ⟨v, r, rfl, q, t⟩ := h
    obtain ⟨w, h1, h2⟩ := RpL.getV (i := i) t (by simpa using e)
    exact ⟨w, by simpa using h1, h2⟩
theorem RpL.append : ∀ {ds es : List Dt} {vs us : List V}, RpL K H ds vs → RpL K H es us → RpL K H (ds ++ es) (vs ++ us)
  | [], _, vs, _, h, t => by
    cases (show vs = [] from h)
    exact t
  | d :: ds, es, vs, us, h, t => by
    obtain ⟨v, r, rfl, q, s⟩ := h
    exact ⟨v, r ++ us, rfl, q, RpL.append s t⟩
theorem RpL.set : ∀ {ds : List Dt} {vs : List V} {d : Dt} {v : V} (i : Nat), RpL K H ds vs → Rp K H d v → RpL K H (ds.set i d) (vs.set i v)
  | [], vs, _, _, _, h, q => by
    cases (show vs = [] from h)
    exact rfl
  | d :: ds, vs, d', v', 0, h, q => by
    obtain ⟨v, r, rfl, _, s⟩ := h
    exact ⟨v', r, rfl, q, s⟩
  | d :: ds, vs, d', v', i + 1, h, q => by
    obtain ⟨v, r, rfl, q', s⟩ := h
    exact ⟨v, r.set i v', rfl, q', RpL.set i s q⟩
theorem RpL.take : ∀ {ds : List Dt} {vs : List V} (i : Nat), RpL K H ds vs → RpL K H (ds.take i) (vs.take i)
  | [], vs, i, h => by
    cases (show vs = [] from h)
    simp [RpL]
  | d :: ds, vs, 0, h => by simp [RpL]
  | d :: ds, vs, i + 1, h => by
    obtain ⟨v, r, rfl, q', s⟩ := h
    exact ⟨v, r.take i, rfl, q', RpL.take i s⟩
theorem RpL.drop : ∀ {ds : List Dt} {vs : List V} (i : Nat), RpL K H ds vs → RpL K H (ds.drop i) (vs.drop i)
  | [], vs, i, h => by
    cases (show vs = [] from h)
    simp [RpL]
  | d :: ds, vs, 0, h => by simpa using h
  | d :: ds, vs, i + 1, h => by
    obtain ⟨v, r, rfl, q', s⟩ := h
    simpa using RpL.drop i s
theorem RpL.of : ∀ {ds : List Dt} {vs : List V}, ds.length = vs.length → (∀ (i : Nat) (d : Dt) (v : V), ds[i]? = some d → vs[i]? = some v → Rp K H d v) → RpL K H ds vs
  | [], vs, e, _ => List.length_eq_zero_iff.mp e.symm
  | d :: ds, [], e, _ => by simp at e
  | d :: ds, v :: vs, e, h => ⟨v, vs, rfl, h 0 d v rfl rfl, RpL.of (by simpa using e) fun i d' v' h1 h2 => h (i + 1) d' v' (by simpa using h1) (by simpa using h2)⟩
theorem RpL.bls : ∀ {ns : List Bool} {vs : List V}, RpL K H (ns.map Dt.bl) vs → vs = ns.map V.bl
  | [], _, h => h
  | n :: ns, vs, h => by
    obtain ⟨v, r, rfl, q, s⟩ := h
    rw [show v = V.bl n from q, RpL.bls s]
    rfl
end
structure Wk (F H F' H' : Hp) : Prop where
  f : Ex F F'
  h : Ex H H'
  s : Ex F' H'
  n : ∀ a o, H a = some o → F a = none → F' a = none
section
variable {K : PySem.W.Frag} {F H F1 H1 F2 H2 : Hp}
theorem Wk.refl (e : Ex F H) : Wk F H F H := ⟨Ex.refl F, Ex.refl H, e, fun _ _ _ h => h⟩
theorem Wk.trans (a : Wk F H F1 H1) (b : Wk F1 H1 F2 H2) : Wk F H F2 H2 :=
  ⟨a.f.trans b.f, a.h.trans b.h, b.s, fun x o h1 h2 => b.n x o (a.h x o h1) (a.n x o h1 h2)⟩
theorem none_sub (e : Ex F H) {p : Addr} (h : H p = none) : F p = none := fresh_back e h
/-- a new object that is data -/
theorem Wk.new (e : Ex F H) {p : Addr} (o : HO) (h : H p = none) : Wk F H (upd F p o) (upd H p o) :=
  ⟨Ex.new (none_sub e h), Ex.new h, fun a u q => by
    by_cases z : a = p
    · subst z
      rw [upd_same] at q ⊢
      exact q
    · rw [upd_ne z] at q ⊢
      exact e a u q, fun a u q n => by
    have z : a ≠ p := ne_of_none q h
    rw [upd_ne z]
    exact n⟩
/-- a new object of one's own -/
theorem Wk.own (e : Ex F H) {p : Addr} (o : HO) (h : H p = none) : Wk F H F (upd H p o) :=
  ⟨Ex.refl F, Ex.new h, e.trans (Ex.new h), fun _ _ _ n => n⟩
/-- .. becomes data -/
theorem Wk.give {p : Addr} {o : HO} (e : Ex F H) (w : Wk F H F1 H1) (h0 : H p = none) (h : H1 p = some o) : Wk F H (upd F1 p o) H1 :=
  ⟨fun a u q => by
    have z : a ≠ p := ne_of_none q (none_sub e h0)
    rw [upd_ne z]
    exact w.f a u q, w.h, fun a u q => by
    by_cases z : a = p
    · subst z
      rw [upd_same] at q
      rw [h, ← q]
    · rw [upd_ne z] at q
      exact w.s a u q, fun a u q n => by
    have z : a ≠ p := ne_of_none q h0
    rw [upd_ne z]
    exact w.n a u q n⟩
end
inductive Sl where
  | x | u | d (d : Dt) | ol (ds : List Dt)
def SlOk (K : PySem.W.Frag) (F H0 H : Hp) (v : Option V) : Sl → Prop
  | .x => True
  | .u => v = none
  | .d d => ∃ w, v = some w ∧ Rp K F d w
  | .ol ds => ∃ p vs, v = some (.ref p) ∧ F p = none ∧ H0 p = none ∧ H p = some (.lst vs) ∧ RpL K F ds vs
abbrev En := List Sl
/-- the state: F0, H0 at the def's entry, F, H now -/
structure Sm (K : PySem.W.Frag) (F0 H0 F H : Hp) (σ : L2.St) (env : En) : Prop where
  e0 : Ex F0 H0
  g : Wk F0 H0 F H
  len : σ.length = env.length
  sl : ∀ (i : Nat) (s : Sl), env[i]? = some s → ∃ v, σ[i]? = some v ∧ SlOk K F H0 H v s
  df : ∀ (i j : Nat) (ds es : List Dt) (p : Addr), i ≠ j → env[i]? = some (.ol ds) → env[j]? = some (.ol es) → σ[i]? = some (some (.ref p)) → σ[j]? ≠ some (some (.ref p))
section
variable {K : PySem.W.Frag} {F0 H0 F H F' H' : Hp} {σ : L2.St} {env env' : En}
theorem SlOk.wk {v : Option V} {s : Sl} (w : Wk F H F' H') (h : SlOk K F H0 H v s) : SlOk K F' H0 H' v s := by
  cases s with
  | x => trivial
  | u => exact h
  | d d =>
    obtain ⟨u, e, r⟩ := h
    exact ⟨u, e, r.mono w.f⟩
  | ol ds =>
    obtain ⟨p, vs, e, h1, h2, h3, h4⟩ := h
    exact ⟨p, vs, e, w.n p _ h3 h1, h2, w.h p _ h3, h4.mono w.f⟩
theorem Sm.wk (S : Sm K F0 H0 F H σ env) (w : Wk F H F' H') : Sm K F0 H0 F' H' σ env :=
  ⟨S.e0, S.g.trans w, S.len, fun i s e => by
    obtain ⟨v, h1, h2⟩ := S.sl i s e
    exact ⟨v, h1, h2.wk w⟩, S.df⟩
theorem Sm.sub (S : Sm K F0 H0 F H σ env) : Ex F H := S.g.s
/-- an object that is nobody's slot is made or changed -/
theorem Sm.upd (S : Sm K F0 H0 F H σ env) {p : Addr} (o : HO) (hF : F p = none) (h0 : H0 p = none) (hp : ∀ (i : Nat) (ds : List Dt), env[i]? = some (.ol ds) → σ[i]? ≠ some (some (.ref p))) : Sm K F0 H0 F (L2.upd H p o) σ env :=
  ⟨S.e0, ⟨S.g.f, fun a u q => by
    rw [upd_ne (ne_of_none q h0)]
    exact S.g.h a u q, fun a u q => by
    rw [upd_ne (ne_of_none q hF)]
    exact S.g.s a u q, S.g.n⟩, S.len, fun i s e => by
    obtain ⟨v, h1, h2⟩ := S.sl i s e
    refine ⟨v, h1, ?_⟩
    cases s with
    | x => trivial
    | u => exact h2
    | d d => exact h2
    | ol ds =>
      obtain ⟨q, vs, ev, g1, g2, g3, g4⟩ := h2
      have ne : q ≠ p := fun z => hp i ds e (by rw [h1, ev, z])
      exact ⟨q, vs, ev, g1, g2, by rw [upd_ne ne]; exact g3, g4⟩, S.df⟩
theorem get_set {α : Type} {l : List α} {i j : Nat} {a b : α} (h : (l.set i a)[j]? = some b) : (i = j ∧ b = a ∧ i < l.length) ∨ (i ≠ j ∧ l[j]? = some b) := by
  rw [List.getElem?_set] at h
  by_cases e : i = j
  · rw [if_pos e] at h
    by_cases l : i < l.length
    · rw [if_pos l] at h
      exact .inl ⟨e, (Option.some.inj h).symm, l⟩
    · rw [if_neg l] at h
      cases h
  · rw [if_neg e] at h
    exact .inr ⟨e, h⟩
theorem set_same {α : Type} {l : List α} {i : Nat} {a : α} (h : i < l.length) : (l.set i a)[i]? = some a := by simp [h]
theorem set_ne {α : Type} {l : List α} {i j : Nat} {a : α} (h : i ≠ j) : (l.set i a)[j]? = l[j]? := by simp [h]
/-- slot i gets data -/
theorem Sm.setD (S : Sm K F0 H0 F H σ env) {i : Nat} {d : Dt} {v : V} (r : Rp K F d v) : Sm K F0 H0 F H (σ.set i (some v)) (env.set i (.d d)) :=
  ⟨S.e0, S.g, by simp [S.len], fun j s e => by
    rcases get_set e with ⟨rfl, rfl, l⟩ | ⟨ne, e⟩
    · exact ⟨some v, set_same (by rw [S.len]; exact l), v, rfl, r⟩
    · rw [set_ne ne]
      exact S.sl j s e, fun a b ds es p ne e1 e2 h => by
    rcases get_set e1 with ⟨_, z, _⟩ | ⟨n1, e1⟩
    · cases z
    · rcases get_set e2 with ⟨_, z, _⟩ | ⟨n2, e2⟩
      · cases z
      · rw [set_ne n1] at h
        rw [set_ne n2]
        exact S.df a b ds es p ne e1 e2 h⟩
/-- slot i gets a new list of its own -/
theorem Sm.setL (S : Sm K F0 H0 F H σ env) {i : Nat} {ds : List Dt} {p : Addr} {vs : List V} (hF : F p = none) (h0 : H0 p = none) (hp : H p = some (.lst vs)) (r : RpL K F ds vs) (hn : ∀ (j : Nat) (es : List Dt), env[j]? = some (.ol es) → σ[j]? ≠ some (some (.ref p))) :
    Sm K F0 H0 F H (σ.set i (some (.ref p))) (env.set i (.ol ds)) :=
  ⟨S.e0, S.g, by simp [S.len], fun j s e => by
    rcases get_set e with ⟨rfl, rfl, l⟩ | ⟨ne, e⟩
    · exact ⟨some (.ref p), set_same (by rw [S.len]; exact l), p, vs, rfl, hF, h0, hp, r⟩
    · rw [set_ne ne]
      exact S.sl j s e, fun a b ds es q ne e1 e2 h => by
    rcases get_set e1 with ⟨ra, z1, _⟩ | ⟨n1, e1⟩
    · rcases get_set e2 with ⟨rb, z2, _⟩ | ⟨n2, e2⟩
      · exact absurd (ra.symm.trans rb) ne
      · subst ra
        rw [set_ne n2]
        have l : i < σ.length := by
          rw [S.len]
          exact (by assumption)
        rw [set_same l] at h
        cases h
        exact hn b es e2
    · rcases get_set e2 with ⟨rb, z2, l⟩ | ⟨n2, e2⟩
      · subst rb
        rw [set_ne n1] at h
        intro q2
        rw [set_same (by rw [S.len]; exact l)] at q2
        cases q2
        exact hn a ds e1 h
      · rw [set_ne n1] at h
        rw [set_ne n2]
        exact S.df a b ds es q ne e1 e2 h⟩
/-- the own list in slot i becomes data -/
theorem Sm.freeze (S : Sm K F0 H0 F H σ env) {i : Nat} {ds : List Dt} (h : env[i]? = some (.ol ds)) :
    ∃ p vs, σ[i]? = some (some (.ref p)) ∧ F p = none ∧ H p = some (.lst vs) ∧ RpL K F ds vs ∧ Sm K F0 H0 (L2.upd F p (.lst vs)) H σ (env.set i (.d (.lst ds))) := by
  obtain ⟨v, h1, p, vs, rfl, g1, g2, g3, g4⟩ := S.sl i _ h
  have ex : Ex F (L2.upd F p (.lst vs)) := Ex.new g1
  refine ⟨p, vs, h1, g1, g3, g4, S.e0, S.g.give S.e0 g2 g3, by simp [S.len], fun j s e => ?_, fun a b ds es q ne e1 e2 h => ?_⟩
  · rcases get_set e with ⟨rfl, rfl, l⟩ | ⟨ne, e⟩
    · exact ⟨_, h1, .ref p, rfl, p, vs, rfl, SqL.of upd_same, g4.mono ex⟩
    · obtain ⟨w, k1, k2⟩ := S.sl j s e
      refine ⟨w, k1, ?_⟩
      cases s with
      | x => trivial
      | u => exact k2
      | d d =>
        obtain ⟨u, e, r⟩ := k2
        exact ⟨u, e, r.mono ex⟩
      | ol es =>
        obtain ⟨q, us, eq, f1, f2, f3, f4⟩ := k2
        have nq : q ≠ p := fun z => S.df i j ds es p ne h e h1 (by rw [k1, eq, z])
        exact ⟨q, us, eq, by rw [upd_ne nq]; exact f1, f2, f3, f4.mono ex⟩
  · rcases get_set e1 with ⟨_, z, _⟩ | ⟨n1, e1⟩
    · cases z
    · rcases get_set e2 with ⟨_, z, _⟩ | ⟨n2, e2⟩
      · cases z
      · exact S.df a b ds es q ne e1 e2 h
/-- forgetting -/
def Le (a b : En) : Prop := a.length = b.length ∧ ∀ (i : Nat) (s : Sl), b[i]? = some s → s = .x ∨ a[i]? = some s
theorem Le.refl (a : En) : Le a a := ⟨rfl, fun _ _ h => .inr h⟩
theorem Le.nil : Le [] [] := Le.refl _
theorem Le.x {a b : En} {s : Sl} (h : Le a b) : Le (s :: a) (.x :: b) := ⟨by simp [h.1], fun i t e => by
  cases i with
  | zero => exact .inl (by simpa using e.symm)
  | succ i => exact h.2 i t (by simpa using e)⟩
theorem Le.s {a b : En} {s : Sl} (h : Le a b) : Le (s :: a) (s :: b) := ⟨by simp [h.1], fun i t e => by
  cases i with
  | zero => exact .inr (by simpa using e)
  | succ i => exact h.2 i t (by simpa using e)⟩
theorem Sm.le (S : Sm K F0 H0 F H σ env) (l : Le env env') : Sm K F0 H0 F H σ env' :=
  ⟨S.e0, S.g, S.len.trans l.1, fun i s e => by
    rcases l.2 i s e with rfl | z
    · have hi : i < σ.length := by
        rw [S.len, l.1]
        exact (List.getElem?_eq_some_iff.mp e).1
      exact ⟨σ[i], by simp [hi], trivial⟩
    · exact S.sl i s z, fun a b ds es p ne e1 e2 h => by
    rcases l.2 a _ e1 with z | e1
    · cases z
    · rcases l.2 b _ e2 with z | e2
      · cases z
      · exact S.df a b ds es p ne e1 e2 h⟩
end
end Pw
set_option maxHeartbeats 2000000
namespace Pw
open PySem PySem.Spec PyProof.Rows L2 Evl
variable (K : PySem.W.Frag)
/-- what is done with a value d -/
abbrev Kq (F H : Hp) (d : Dt) (Q : VK) : Prop := ∀ v F' H', Wk F H F' H' → Rp K F' d v → Q v H'
abbrev KqL (F H : Hp) (ds : List Dt) (Q : List V → Hp → Prop) : Prop := ∀ vs F' H', Wk F H F' H' → RpL K F' ds vs → Q vs H'
def Ee (te : TE) (env : En) (d : Dt) : Prop := ∀ F0 H0 F H σ, Sm K F0 H0 F H σ env → ∀ Q : VK, Kq K F H d Q → te σ H Q
def Te (tt : TT) (env : En) (b : Bool) : Prop := ∀ F0 H0 F H σ, Sm K F0 H0 F H σ env → ∀ Q : Bool → Hp → Prop, (∀ F' H', Wk F H F' H' → Q b H') → tt σ H Q
def EeA (ta : TA) (env : En) (ds : List Dt) : Prop := ∀ F0 H0 F H σ, Sm K F0 H0 F H σ env → ∀ Q : List V → Hp → Prop, KqL K F H ds Q → ta σ H Q
/-- a new list of one's own -/
def EnL (te : TE) (env : En) (ds : List Dt) : Prop := ∀ F0 H0 F H σ, Sm K F0 H0 F H σ env → ∀ Q : VK, (∀ p vs F' H', Wk F H F' H' → H p = none → F' p = none → H' p = some (.lst vs) → RpL K F' ds vs → Q (.ref p) H') → te σ H Q
/-- operations on values -/
def R2d (r : R2) (d e z : Dt) : Prop := ∀ F H x y, Ex F H → Rp K F d x → Rp K F e y → ∀ Q : VK, Kq K F H z Q → r x y H Q
def R1d (r : V → Hp → VK → Prop) (d z : Dt) : Prop := ∀ F H x, Ex F H → Rp K F d x → ∀ Q : VK, Kq K F H z Q → r x H Q
def RLd (r : List V → Hp → VK → Prop) (ds : List Dt) (z : Dt) : Prop := ∀ F H vs, Ex F H → RpL K F ds vs → ∀ Q : VK, Kq K F H z Q → r vs H Q
def RLn (r : List V → Hp → VK → Prop) (ds es : List Dt) : Prop := ∀ F H vs, Ex F H → RpL K F ds vs → ∀ Q : VK, (∀ p us F' H', Wk F H F' H' → H p = none → F' p = none → H' p = some (.lst us) → RpL K F' es us → Q (.ref p) H') → r vs H Q
variable {K}
section
variable {env : En} {ta tb te tc : TE} {t u : TT} {d e z : Dt} {r r' : R2}
theorem te_is {b c : Bool} (h : Te K t env b) (e' : b = c) : Te K t env c := by
  rw [← e']
  exact h
def truD : Dt → Option Bool
  | .non => some false
  | .bl b => some b
  | .int i => some (i != 0)
  | .tup ds => some (!ds.isEmpty)
  | .lst ds => some (!ds.isEmpty)
  | _ => none
theorem isEmpty_rp {F : Hp} {ds : List Dt} {vs : List V} (h : RpL K F ds vs) : (!ds.isEmpty) = !vs.isEmpty := by
  have := h.length
  cases ds <;> cases vs <;> simp_all
def flatD : Dt → Bool
  | .non | .bl _ | .int _ | .str _ | .ty _ | .adr _ => true
  | _ => false
theorem Rp.flat {F F' : Hp} {v : V} (h : Rp K F d v) (f : flatD d = true) : Rp K F' d v := by
  cases d <;> first | exact h | cases f
theorem r2_I0 {g : Int → Int → Int} {i j : Int} : R2d K (rI0 fun i j => .int (g i j)) (.int i) (.int j) (.int (g i j)) := fun F H x y s r1 r2 Q q => ⟨i, j, r1, r2, q _ F H (Wk.refl s) rfl⟩
theorem r2_B0 {g : Int → Int → Bool} {i j : Int} : R2d K (rI0 fun i j => .bl (g i j)) (.int i) (.int j) (.bl (g i j)) := fun F H x y s r1 r2 Q q => ⟨i, j, r1, r2, q _ F H (Wk.refl s) rfl⟩
theorem r2_I {C : Int → Int → Prop} {g : Int → Int → Int} {i j : Int} (c : C i j) : R2d K (rI C fun i j => .int (g i j)) (.int i) (.int j) (.int (g i j)) := fun F H x y s r1 r2 Q q => ⟨i, j, r1, r2, c, q _ F H (Wk.refl s) rfl⟩
theorem r1_U {g : Int → Int} {i : Int} : R1d K (rU fun i => .int (g i)) (.int i) (.int (g i)) := fun F H x s r1 Q q => ⟨i, r1, q _ F H (Wk.refl s) rfl⟩
/-- a value that holds no object -/
def fl : Dt → V
  | .non => .non
  | .bl b => .bl b
  | .int i => .int i
  | .str x => .str x
  | .ty n => .ty n
  | .adr a => .ref a
  | _ => .non
theorem Rp.fl {F : Hp} {v : V} (h : Rp K F d v) (f : flatD d = true) : v = Pw.fl d := by
  cases d <;> first | exact h | cases f
theorem r2_eq (fd : flatD d = true := by rfl) (fe : flatD e = true := by rfl) (hs : scal (fl d) (fl e) = true := by rfl) : R2d K rEq d e (.bl (decide (fl d = fl e))) := fun F H x y s r1 r2 Q q => by
  rw [r1.fl fd, r2.fl fe]
  exact ⟨hs, q _ F H (Wk.refl s) rfl⟩
theorem r2_ne (fd : flatD d = true := by rfl) (fe : flatD e = true := by rfl) (hs : scal (fl d) (fl e) = true := by rfl) : R2d K rNe d e (.bl (!decide (fl d = fl e))) := fun F H x y s r1 r2 Q q => by
  rw [r1.fl fd, r2.fl fe]
  exact ⟨hs, q _ F H (Wk.refl s) rfl⟩
theorem r2_eqI {i j : Int} : R2d K rEq (.int i) (.int j) (.bl (decide (i = j))) := fun F H x y s r1 r2 Q q => by
  cases r1; cases r2
  exact ⟨rfl, q _ F H (Wk.refl s) (by show V.bl _ = V.bl _; simp)⟩
theorem r2_neI {i j : Int} : R2d K rNe (.int i) (.int j) (.bl (!decide (i = j))) := fun F H x y s r1 r2 Q q => by
  cases r1; cases r2
  exact ⟨rfl, q _ F H (Wk.refl s) (by show V.bl _ = V.bl _; simp)⟩
theorem r2_eqS {i j : Str} : R2d K rEq (.str i) (.str j) (.bl (decide (i = j))) := fun F H x y s r1 r2 Q q => by
  cases r1; cases r2
  exact ⟨rfl, q _ F H (Wk.refl s) (by show V.bl _ = V.bl _; simp)⟩
theorem r2_neS {i j : Str} : R2d K rNe (.str i) (.str j) (.bl (!decide (i = j))) := fun F H x y s r1 r2 Q q => by
  cases r1; cases r2
  exact ⟨rfl, q _ F H (Wk.refl s) (by show V.bl _ = V.bl _; simp)⟩
/-- items -/
theorem r2_ixL {ds : List Dt} {i : Int} {j : Nat} (hj : ixN ds.length i = some j) (h : ds[j]? = some z) : R2d K (rIxL K) (.lst ds) (.int i) z := fun F H x y s r1 r2 Q q => by
  obtain ⟨a, vs, rfl, h1, h2⟩ := r1
  obtain ⟨v, g1, g2⟩ := h2.get h
  exact ⟨a, vs, i, v, rfl, r2, ex_l s h1, by unfold atI; rw [← h2.length, hj]; exact g1, q v F H (Wk.refl s) g2⟩
theorem r2_ixT {ds : List Dt} {i : Int} {j : Nat} (hj : ixN ds.length i = some j) (h : ds[j]? = some z) : R2d K (rIxT K) (.tup ds) (.int i) z := fun F H x y s r1 r2 Q q => by
  obtain ⟨a, vs, rfl, h1, h2⟩ := r1
  obtain ⟨v, g1, g2⟩ := h2.get h
  exact ⟨a, vs, i, v, rfl, r2, ex_t s h1, by unfold atI; rw [← h2.length, hj]; exact g1, q v F H (Wk.refl s) g2⟩
theorem ixN_at {n : Nat} {i : Int} (h0 : 0 ≤ i) (h1 : i < n) : ixN n i = some i.toNat := by
  have h := ixN_nat (n := n) (j := i.toNat) (by omega)
  rw [show ((i.toNat : Nat) : Int) = i by omega] at h
  exact h
theorem r2_ixS {w : Str} {i : Int} {c : Nat} (hl : w.length ≤ 100000) (h : atI w.cps.toList i = some c) : R2d K rIxS (.str w) (.int i) (.str ⟨#[c]⟩) := fun F H x y s r1 r2 Q q => by
  cases r1; cases r2
  exact ⟨w, i, c, rfl, rfl, sz_of hl, h, q _ F H (Wk.refl s) rfl⟩
theorem r2_addS {v w : Str} (hl : v.length + w.length ≤ 100000) : R2d K (fun x y H Q => ∃ i j, x = .str i ∧ y = .str j ∧ i.length + j.length ≤ sizeLine ∧ Q (.str (i ++ j)) H) (.str v) (.str w) (.str (v ++ w)) := fun F H x y s r1 r2 Q q => by
  cases r1; cases r2
  exact ⟨v, w, rfl, rfl, sz_of hl, q _ F H (Wk.refl s) rfl⟩
/-- a written sign in a text -/
theorem r2_inS {c : Nat} {w : Str} : R2d K rInS (.str ⟨#[c]⟩) (.str w) (.bl (decide (c ∈ w.cps.toList))) := fun F H x y s r1 r2 Q q => by
  cases r1; cases r2
  exact ⟨c, w, rfl, rfl, q _ F H (Wk.refl s) rfl⟩
theorem r2_niS {c : Nat} {w : Str} : R2d K rNotInS (.str ⟨#[c]⟩) (.str w) (.bl (!decide (c ∈ w.cps.toList))) := fun F H x y s r1 r2 Q q => by
  cases r1; cases r2
  exact ⟨c, w, rfl, rfl, q _ F H (Wk.refl s) rfl⟩
/-- in over a list or tuple of plain values -/
theorem RpL.fl {F : Hp} : ∀ {ds : List Dt} {vs : List V}, RpL K F ds vs → ds.all flatD = true → vs = ds.map Pw.fl
  | [], _, h, _ => h
  | d :: ds, vs, h, f => by
    obtain ⟨v, r, rfl, q, s⟩ := h
    rw [List.all_cons, Bool.and_eq_true] at f
    rw [q.fl f.1, RpL.fl s f.2]
    rfl
theorem r2_in {neg : Bool} {ds : List Dt} (fd : flatD d = true) (fs : ds.all flatD = true) (gd : flatV (fl d) = true) (gs : (ds.map fl).all flatV = true) :
    R2d K (rIn K neg) d (.lst ds) (.bl (if neg then !inV (fl d) (ds.map fl) else inV (fl d) (ds.map fl))) := fun F H x y s r1 r2 Q q => by
  obtain ⟨a, vs, rfl, h1, h2⟩ := r2
  rw [r1.fl fd]
  rw [h2.fl fs] at h1
  exact ⟨a, _, rfl, .inl (ex_l s h1), gd, gs, q _ F H (Wk.refl s) rfl⟩
theorem r2_inT {neg : Bool} {ds : List Dt} (fd : flatD d = true) (fs : ds.all flatD = true) (gd : flatV (fl d) = true) (gs : (ds.map fl).all flatV = true) :
    R2d K (rIn K neg) d (.tup ds) (.bl (if neg then !inV (fl d) (ds.map fl) else inV (fl d) (ds.map fl))) := fun F H x y s r1 r2 Q q => by
  obtain ⟨a, vs, rfl, h1, h2⟩ := r2
  rw [r1.fl fd]
  rw [h2.fl fs] at h1
  exact ⟨a, _, rfl, .inr (ex_t s h1), gd, gs, q _ F H (Wk.refl s) rfl⟩
mutual
def py : Dt → Option PyData
  | .non => some .none
  | .bl b => some (.bool b)
  | .int i => some (.int i)
  | .str x => some (.str x)
  | .tup ds => (pyL ds).map .tuple
  | .lst ds => (pyL ds).map .list
  | _ => none
def pyL : List Dt → Option (List PyData)
  | [] => some []
  | d :: ds => match py d, pyL ds with
    | some p, some ps => some (p :: ps)
    | _, _ => none
end
mutual
theorem Rp.dp {F : Hp} : ∀ {d : Dt} {v : V} {p : PyData}, Rp K F d v → py d = some p → Dp K F v p
  | .non, v, p, h, e => by cases e; cases h; exact .non
  | .bl b, v, p, h, e => by cases e; cases h; exact .bl b
  | .int b, v, p, h, e => by cases e; cases h; exact .int b
  | .str b, v, p, h, e => by cases e; cases h; exact .str b
  | .tup ds, v, p, h, e => by
    obtain ⟨a, vs, rfl, h1, h2⟩ := h
    cases q : pyL ds with
    | none => simp [py, q] at e
    | some ps =>
      simp [py, q] at e
      subst e
      exact .tup h1 (RpL.dp h2 q)
  | .lst ds, v, p, h, e => by
    obtain ⟨a, vs, rfl, h1, h2⟩ := h
    cases q : pyL ds with
    | none => simp [py, q] at e
    | some ps =>
      simp [py, q] at e
      subst e
      exact .lst h1 (RpL.dp h2 q)
  | .dic _ _, _, _, _, e => by simp [py] at e
  | .dit _ _, _, _, _, e => by simp [py] at e
  | .obj _ _ _, _, _, _, e => by simp [py] at e
  | .exc _ _ _, _, _, _, e => by simp [py] at e
  | .ty _, _, _, _, e => by simp [py] at e
  | .adr _, _, _, _, e => by simp [py] at e
theorem RpL.dp {F : Hp} : ∀ {ds : List Dt} {vs : List V} {ps : List PyData}, RpL K F ds vs → pyL ds = some ps → DpAll K F vs ps
  | [], vs, ps, h, e => by
    cases e
    cases (show vs = [] from h)
    exact .nil
  | d :: ds, vs, ps, h, e => by
    obtain ⟨v, r, rfl, q, s⟩ := h
    cases e1 : py d with
    | none => simp [pyL, e1] at e
    | some p =>
      cases e2 : pyL ds with
      | none => simp [pyL, e1, e2] at e
      | some ps' =>
        simp [pyL, e1, e2] at e
        subst e
        exact .cons (Rp.dp q e1) (RpL.dp s e2)
end
mutual
theorem dp_mono {H H' : Hp} (e : Ex H H') : ∀ {p : PyData} {v : V}, Dp K H v p → Dp K H' v p
  | .none, _, h => by cases h; exact .non
  | .bool b, _, h => by cases h; exact .bl b
  | .int b, _, h => by cases h; exact .int b
  | .str b, _, h => by cases h; exact .str b
  | .list ds, _, h => by
    cases h with
    | lst h1 h2 => exact .lst (ex_l e h1) (dpAll_mono e h2)
  | .tuple ds, _, h => by
    cases h with
    | tup h1 h2 => exact .tup (ex_t e h1) (dpAll_mono e h2)
  | .dict _, _, h => by cases h
theorem dpAll_mono {H H' : Hp} (e : Ex H H') : ∀ {ps : List PyData} {vs : List V}, DpAll K H vs ps → DpAll K H' vs ps
  | [], _, h => by cases h; exact .nil
  | p :: ps, _, h => by
    cases h with
    | cons h1 h2 => exact .cons (dp_mono e h1) (dpAll_mono e h2)
end
theorem r2_eqD {p q : PyData} (hp : py d = some p) (hq : py e = some q) (sp : SeqAt.shaped p = true) (sq : SeqAt.shaped q = true) : R2d K (rEqD K) d e (.bl (PyData.eqv p q)) := fun F H x y s r1 r2 Q k =>
  ⟨p, q, dp_mono s (r1.dp hp), dp_mono s (r2.dp hq), sp, sq, k _ F H (Wk.refl s) rfl⟩
theorem r2_neD {p q : PyData} (hp : py d = some p) (hq : py e = some q) (sp : SeqAt.shaped p = true) (sq : SeqAt.shaped q = true) : R2d K (rNeD K) d e (.bl (!PyData.eqv p q)) := fun F H x y s r1 r2 Q k =>
  ⟨p, q, dp_mono s (r1.dp hp), dp_mono s (r2.dp hq), sp, sq, k _ F H (Wk.refl s) rfl⟩
end
end Pw
set_option maxHeartbeats 2000000
namespace Pw
open PySem PySem.Spec PyProof.Rows L2 Evl
def spF (K : PySem.W.Frag) (f : List Dt → Option Dt) : Sp := fun vs H Q _ => ∃ F ds d, Ex F H ∧ RpL K F ds vs ∧ f ds = some d ∧ Kq K F H d Q
section
variable {K : PySem.W.Frag} {env : En} {ta tb te tc : TE} {t u : TT} {d e z : Dt} {f : List Dt → Option Dt}
theorem spF_len {n : Nat} (hf : ∀ ds d, f ds = some d → ds.length = n) (vs : List V) (H : Hp) (Q : VK) (E : XK) (h : spF K f vs H Q E) : vs.length = n := by
  obtain ⟨F, ds, d, _, r, e, _⟩ := h
  rw [← r.length]
  exact hf ds d e
inductive Out where
  | nx (e : En) | ct (e : En) | nc (e : En) | bk (e : En) | rt (d : Dt)
def Po (K : PySem.W.Frag) (F0 H0 F : Hp) (D : Ends) : Out → Prop
  | .nx e => ∀ F' H' σ', Ex F F' → Sm K F0 H0 F' H' σ' e → D.nx σ' H'
  | .ct e => ∀ F' H' σ', Ex F F' → Sm K F0 H0 F' H' σ' e → D.ct σ' H'
  | .nc e => ∀ F' H' σ', Ex F F' → Sm K F0 H0 F' H' σ' e → D.nx σ' H' ∧ D.ct σ' H'
  | .bk e => ∀ F' H' σ', Ex F F' → Sm K F0 H0 F' H' σ' e → D.bk σ' H'
  | .rt d => ∀ v F' H', Wk F0 H0 F' H' → Rp K F' d v → D.rt v H'
def Se (K : PySem.W.Frag) (t : TS) (env : En) (o : Out) : Prop := ∀ F0 H0 F H σ D, Sm K F0 H0 F H σ env → Po K F0 H0 F D o → t D σ H
def Ge (K : PySem.W.Frag) (g : TG) (d : Dt) (env env' : En) : Prop := ∀ F0 H0 F H σ v, Sm K F0 H0 F H σ env → Rp K F d v → ∀ Q : L2.St → Hp → Prop, (∀ σ', Sm K F0 H0 F H σ' env' → Q σ' H) → g v σ H Q
variable {s s1 s2 : TS} {o : Out} {env1 env2 : En} {g : TG}
theorem Po.ex {F0 H0 F F' : Hp} {D : Ends} (e : Ex F F') (p : Po K F0 H0 F D o) : Po K F0 H0 F' D o := by
  cases o with
  | nx e1 => exact fun F2 H2 σ2 e2 S => p F2 H2 σ2 (e.trans e2) S
  | ct e1 => exact fun F2 H2 σ2 e2 S => p F2 H2 σ2 (e.trans e2) S
  | nc e1 => exact fun F2 H2 σ2 e2 S => p F2 H2 σ2 (e.trans e2) S
  | bk e1 => exact fun F2 H2 σ2 e2 S => p F2 H2 σ2 (e.trans e2) S
  | rt d => exact p
theorem ge_name {i : Nat} : Ge K (gName i) d env (env.set i (.d d)) := fun F0 H0 F H σ v S r Q q => q _ (S.setD r)
theorem se_asgG (h : Ee K te env d) (hg : Ge K g d env env1) : Se K (tAsg te g) env (.nx env1) := fun F0 H0 F H σ D S p =>
  h F0 H0 F H σ S _ fun v F1 H1 w r => hg F0 H0 F1 H1 σ v (S.wk w) r _ fun σ' S' => p F1 H1 σ' w.f S'
theorem se_asg {i : Nat} (h : Ee K te env d) : Se K (tAsg te (gName i)) env (.nx (env.set i (.d d))) := se_asgG h ge_name
theorem Sm.setU {F0 H0 F H : Hp} {σ : L2.St} (S : Sm K F0 H0 F H σ env) (i : Nat) : Sm K F0 H0 F H (σ.set i none) (env.set i .u) :=
  ⟨S.e0, S.g, by simp [S.len], fun j s e => by
    rcases get_set e with ⟨rfl, rfl, l⟩ | ⟨ne, e⟩
    · exact ⟨none, set_same (by rw [S.len]; exact l), rfl⟩
    · rw [set_ne ne]
      exact S.sl j s e, fun a b ds es p ne e1 e2 h => by
    rcases get_set e1 with ⟨_, z, _⟩ | ⟨n1, e1⟩
    · cases z
    · rcases get_set e2 with ⟨_, z, _⟩ | ⟨n2, e2⟩
      · cases z
      · rw [set_ne n1] at h
        rw [set_ne n2]
        exact S.df a b ds es p ne e1 e2 h⟩
/-- x = a new list that will be changed -/
theorem se_own {i : Nat} {ds : List Dt} (h : EnL K te env ds) : Se K (tAsg te (gName i)) env (.nx (env.set i (.ol ds))) := fun F0 H0 F H σ D S p =>
  h F0 H0 F H σ S _ fun a vs F1 H1 w n1 n2 h1 r => p F1 H1 _ w.f ((S.wk w).setL n2 (none_sub S.g.h n1) h1 r fun j es e z => by
    obtain ⟨v, k1, p, us, rfl, _, _, k3, _⟩ := S.sl j _ e
    rw [k1] at z
    cases z
    rw [n1] at k3
    cases k3)
theorem se_ret (h : Ee K te env d) : Se K (tRet te) env (.rt d) := fun F0 H0 F H σ D S p => h F0 H0 F H σ S _ fun v F1 H1 w r => p v F1 H1 (S.g.trans w) r
theorem se_next : Se K tNext env (.nx env) := fun F0 H0 F H σ D S p => p F H σ (Ex.refl F) S
theorem se_drop (h : Ee K te env d) : Se K (tDrop te) env (.nx env) := fun F0 H0 F H σ D S p => h F0 H0 F H σ S _ fun v F1 H1 w r => p F1 H1 σ w.f (S.wk w)
theorem se_seq (h1 : Se K s1 env (.nx env1)) (h2 : Se K s2 env1 o) : Se K (tSeq s1 s2) env o := fun F0 H0 F H σ D S p =>
  h1 F0 H0 F H σ _ S fun F1 H1 σ1 e1 S1 => h2 F0 H0 F1 H1 σ1 D S1 (p.ex e1)
theorem se_nc (h : Se K s env (.nx env1)) : Se K s env (.nc env1) := fun F0 H0 F H σ D S p => h F0 H0 F H σ D S fun F1 H1 σ1 e1 S1 => (p F1 H1 σ1 e1 S1).1
theorem se_cc (h : Se K s env (.ct env1)) : Se K s env (.nc env1) := fun F0 H0 F H σ D S p => h F0 H0 F H σ D S fun F1 H1 σ1 e1 S1 => (p F1 H1 σ1 e1 S1).2
theorem se_if {b : Bool} (h : Te K t env b) (h1 : b = true → Se K s1 env o) (h2 : b = false → Se K s2 env o) : Se K (tIfS t s1 s2) env o := fun F0 H0 F H σ D S p => h F0 H0 F H σ S _ fun F1 H1 w => by
  cases b with
  | true =>
    show s1 D σ H1
    exact h1 rfl F0 H0 F1 H1 σ D (S.wk w) (p.ex w.f)
  | false =>
    show s2 D σ H1
    exact h2 rfl F0 H0 F1 H1 σ D (S.wk w) (p.ex w.f)
/-- if t: s1 (no else), then s2 -/
theorem se_when {b : Bool} (h : Te K t env b) (h1 : b = true → Se K (tSeq s1 s2) env o) (h2 : b = false → Se K s2 env o) : Se K (tSeq (tIfS t s1 tNext) s2) env o := fun F0 H0 F H σ D S p => h F0 H0 F H σ S _ fun F1 H1 w => by
  cases b with
  | true =>
    show s1 { D with nx := s2 D } σ H1
    exact h1 rfl F0 H0 F1 H1 σ D (S.wk w) (p.ex w.f)
  | false =>
    show s2 D σ H1
    exact h2 rfl F0 H0 F1 H1 σ D (S.wk w) (p.ex w.f)
/-- if t: s1 else: s2, then s -/
theorem se_ifq {b : Bool} (h : Te K t env b) (h1 : b = true → Se K (tSeq s1 s) env o) (h2 : b = false → Se K (tSeq s2 s) env o) : Se K (tSeq (tIfS t s1 s2) s) env o := fun F0 H0 F H σ D S p => h F0 H0 F H σ S _ fun F1 H1 w => by
  cases b with
  | true =>
    show s1 { D with nx := s D } σ H1
    exact h1 rfl F0 H0 F1 H1 σ D (S.wk w) (p.ex w.f)
  | false =>
    show s2 { D with nx := s D } σ H1
    exact h2 rfl F0 H0 F1 H1 σ D (S.wk w) (p.ex w.f)
theorem se_le (h : Se K s env (.nx env1)) (l : Le env1 env2) : Se K s env (.nx env2) := fun F0 H0 F H σ D S p => h F0 H0 F H σ D S fun F1 H1 σ1 e1 S1 => p F1 H1 σ1 e1 (S1.le l)
theorem se_pre (l : Le env env1) (h : Se K s env1 o) : Se K s env o := fun F0 H0 F H σ D S p => h F0 H0 F H σ D (S.le l) p
theorem se_freeze {i : Nat} {ds : List Dt} (hi : env[i]? = some (.ol ds)) (h : Se K s (env.set i (.d (.lst ds))) o) : Se K s env o := fun F0 H0 F H σ D S p => by
  obtain ⟨a, vs, h1, h2, h3, h4, S'⟩ := S.freeze hi
  exact h F0 H0 _ H σ D S' (p.ex (Ex.new h2))
theorem se_is (h : Se K s env o) {o' : Out} (e : o = o') : Se K s env o' := by
  rw [← e]
  exact h
theorem Sm.mutL {F0 H0 F H : Hp} {σ : L2.St} (S : Sm K F0 H0 F H σ env) {i : Nat} {ds es : List Dt} {p : Addr} {us : List V} (hi : env[i]? = some (.ol ds)) (hp : σ[i]? = some (some (.ref p))) (r : RpL K F es us) :
    Sm K F0 H0 F (L2.upd H p (.lst us)) σ (env.set i (.ol es)) := by
  obtain ⟨v, h1, q, vs, rfl, g1, g2, g3, g4⟩ := S.sl i _ hi
  rw [hp] at h1
  cases h1
  refine ⟨S.e0, ⟨S.g.f, fun a u z => ?_, fun a u z => ?_, S.g.n⟩, by simp [S.len], fun j s e => ?_, fun a b ds1 es1 q ne e1 e2 h => ?_⟩
  · rw [upd_ne (ne_of_none z g2)]
    exact S.g.h a u z
  · rw [upd_ne (ne_of_none z g1)]
    exact S.g.s a u z
  · rcases get_set e with ⟨rfl, rfl, l⟩ | ⟨ne, e⟩
    · exact ⟨_, hp, p, us, rfl, g1, g2, upd_same, r⟩
    · obtain ⟨w, k1, k2⟩ := S.sl j s e
      refine ⟨w, k1, ?_⟩
      cases s with
      | x => trivial
      | u => exact k2
      | d d => exact k2
      | ol es1 =>
        obtain ⟨q, us1, eq, f1, f2, f3, f4⟩ := k2
        have nq : q ≠ p := fun z => S.df i j ds es1 p ne hi e hp (by rw [k1, eq, z])
        exact ⟨q, us1, eq, f1, f2, by rw [upd_ne nq]; exact f3, f4⟩
  · rcases get_set e1 with ⟨ra, z1, _⟩ | ⟨n1, e1⟩
    · rcases get_set e2 with ⟨rb, z2, _⟩ | ⟨n2, e2⟩
      · exact absurd (ra.symm.trans rb) ne
      · subst ra
        exact S.df i b ds es1 q ne hi e2 h
    · rcases get_set e2 with ⟨rb, z2, _⟩ | ⟨n2, e2⟩
      · subst rb
        exact S.df a i ds1 ds q ne e1 hi h
      · exact S.df a b ds1 es1 q ne e1 e2 h
theorem se_app {i : Nat} {ds : List Dt} (hi : env[i]? = some (.ol ds)) (h : Ee K te env d) (hz : ds.length < 100000) : Se K (tDrop (tBM K "list" rAppend (tVar i) (tCons te tNil))) env (.nx (env.set i (.ol (ds ++ [d])))) := fun F0 H0 F H σ D S p => by
  obtain ⟨v, h1, a, vs, rfl, g1, g2, g3, g4⟩ := S.sl i _ hi
  refine ⟨_, h1, .inl ⟨rfl, vs, sq_of g3⟩, h F0 H0 F H σ S _ fun v F1 H1 w r => ⟨a, vs, v, rfl, rfl, w.h a _ g3, sz_lt (by rw [← g4.length]; exact hz), ?_⟩⟩
  exact p F1 _ σ w.f ((S.wk w).mutL hi h1 (RpL.append (g4.mono w.f) (RpL.cons r RpL.nil)))
theorem Sm.start {F H : Hp} {ds : List Dt} {vs : List V} {N : List Str} (e : Ex F H) (r : RpL K F ds vs) : Sm K F H F H (L2.start N vs) (ds.map Sl.d ++ List.replicate (N.length - ds.length) Sl.u) := by
  have hl := r.length
  refine ⟨e, Wk.refl e, by simp [L2.start, hl], fun i s h => ?_, fun i j es fs p ne e1 e2 _ => ?_⟩
  · unfold L2.start
    by_cases hi : i < ds.length
    · rw [List.getElem?_append_left (by simpa using hi), List.getElem?_map] at h
      cases q : ds[i]? with
      | none => rw [q] at h; cases h
      | some d =>
        rw [q] at h
        cases h
        obtain ⟨v, h1, h2⟩ := r.get q
        exact ⟨some v, by rw [List.getElem?_append_left (by simp; omega), List.getElem?_map, h1]; rfl, v, rfl, h2⟩
    · rw [List.getElem?_append_right (by simpa using hi), List.length_map, List.getElem?_replicate] at h
      split at h
      · rename_i lt
        cases h
        exact ⟨none, by rw [List.getElem?_append_right (by simp; omega), List.length_map, List.getElem?_replicate, if_pos (by omega)], rfl⟩
      · cases h
  · by_cases hi : i < ds.length
    · rw [List.getElem?_append_left (by simpa using hi), List.getElem?_map] at e1
      cases q : ds[i]? <;> rw [q] at e1 <;> cases e1
    · rw [List.getElem?_append_right (by simpa using hi), List.length_map, List.getElem?_replicate] at e1
      split at e1 <;> cases e1
theorem run_rt {s : TS} {N : List Str} {vs : List V} {H : Hp} {Q : VK} {E : XK} (h : spF K f vs H Q E) (b : ∀ ds d, f ds = some d → Se K s (ds.map Sl.d ++ List.replicate (N.length - ds.length) Sl.u) (.rt d)) : s { nx := fun _ H' => Q .non H', rt := Q } (L2.start N vs) H := by
  obtain ⟨F, ds, d, e, r, hf, q⟩ := h
  exact b ds d hf F H F H _ _ (Sm.start e r) fun v F' H' w r' => q v F' H' w r'
def Wl (K : PySem.W.Frag) (F1 : Hp) (J : It) (ds : List Dt) : Prop := Walk J ds.length (fun H => Ex F1 H) (fun i H x H' => ∀ F2, Ex F1 F2 → Ex F2 H → ∃ F3 d, Wk F2 H F3 H' ∧ ds[i]? = some d ∧ Rp K F3 d x)
def Ie (K : PySem.W.Frag) (wi : TI) (env : En) (ds : List Dt) : Prop := ∀ F0 H0 F H σ, Sm K F0 H0 F H σ env → ∀ R : It → Hp → Prop, (∀ J F' H', Wk F H F' H' → Wl K F' J ds → R J H') → wi σ H R
theorem wl_at {F : Hp} {ds : List Dt} {vs : List V} {J : It} {G : Hp → Prop} (r : RpL K F ds vs) (w : Walk J vs.length G (YAt vs)) (hg : ∀ H, Ex F H → G H) : Wl K F J ds := by
  unfold Wl
  rw [r.length]
  refine w.mono hg fun i H x H' hi e y F2 e2 e3 => ?_
  obtain ⟨rfl, hx⟩ := y
  obtain ⟨d, h1, h2⟩ := r.getV hx
  exact ⟨F2, d, Wk.refl e3, h1, h2.mono e2⟩
def rangeD (lo : Int) (n : Nat) : List Dt := (List.range n).map fun (i : Nat) => Dt.int (lo + i)
theorem rangeD_len (lo : Int) (n : Nat) : (rangeD lo n).length = n := by simp [rangeD]
theorem wl_range {F : Hp} {lo : Int} {n : Nat} : Wl K F (Itr lo n) (rangeD lo n) := by
  unfold Wl
  rw [rangeD_len]
  refine walk_range.mono (fun _ _ => trivial) fun i H x H' hi e y F2 e2 e3 => ?_
  obtain ⟨rfl, rfl⟩ := y
  exact ⟨F2, .int (lo + i), Wk.refl e3, by simp [rangeD, hi], rfl⟩
theorem ie_rng1 {tA : TA} {n : Int} (h : EeA K tA env [.int n]) (hn : -100000 ≤ n ∧ n ≤ 100000) : Ie K (iRng1 tA) env (rangeD 0 n.toNat) := fun F0 H0 F H σ S R k =>
  h F0 H0 F H σ S _ fun vs F1 H1 w r => by
    obtain ⟨v, r', rfl, e1, e2⟩ := r
    cases e1; cases e2
    exact ⟨n, rfl, by omega, by omega, k _ F1 H1 w wl_range⟩
def charsD (w : Str) : List Dt := w.cps.toList.map fun c => Dt.str ⟨#[c]⟩
theorem se_for {wi : TI} {tb : TS} {ds : List Dt} (hI : Ie K wi env ds) (E : Nat → En) (m : Nat) (hm : m ≤ ds.length) (h0 : Le env (E 0))
    (hs : ∀ i d, i < m → ds[i]? = some d → ∃ e1, Ge K g d (E i) e1 ∧ Se K tb e1 (.nc (E (i + 1))))
    (hd : (m = ds.length ∧ o = .nx (E m)) ∨ ∃ d e1, ds[m]? = some d ∧ Ge K g d (E m) e1 ∧ ((∃ z, o = .rt z ∧ Se K tb e1 (.rt z)) ∨ ∃ e, o = .nx e ∧ Se K tb e1 (.bk e))) : Se K (tFor wi g tb) env o := fun F0 H0 F H σ D S p =>
  hI F0 H0 F H σ S _ fun J F1 H1 w W => by
    refine for_it W (fun i σ H => i ≤ m ∧ ∃ F, Ex F1 F ∧ Sm K F0 H0 F H σ (E i)) ⟨Nat.zero_le m, F1, Ex.refl F1, (S.wk w).le h0⟩ (fun i σ H _ h => ?_) (fun i x σ H H' hi h y => ?_) (fun σ H h => ?_)
    · obtain ⟨_, F2, e2, S2⟩ := h
      exact e2.trans S2.sub
    · obtain ⟨him, F2, e2, S2⟩ := h
      obtain ⟨F3, d, w3, hd', r3⟩ := y F2 e2 S2.sub
      by_cases hlt : i < m
      · obtain ⟨e1, hg, hb⟩ := hs i d hlt hd'
        refine hg F0 H0 F3 H' σ x (S2.wk w3) r3 _ fun σ3 S3 => ?_
        refine hb F0 H0 F3 H' σ3 _ S3 fun F4 H4 σ4 e4 S4 => ⟨⟨hlt, F4, (e2.trans w3.f).trans e4, S4⟩, ⟨hlt, F4, (e2.trans w3.f).trans e4, S4⟩⟩
      · have him' : i = m := by omega
        subst him'
        rcases hd with ⟨e, _⟩ | ⟨d', e1, h1, hg, hb⟩
        · omega
        · rw [hd'] at h1
          cases h1
          refine hg F0 H0 F3 H' σ x (S2.wk w3) r3 _ fun σ3 S3 => ?_
          rcases hb with ⟨z, rfl, hz⟩ | ⟨e, rfl, hz⟩
          · exact hz F0 H0 F3 H' σ3 _ S3 p
          · exact hz F0 H0 F3 H' σ3 _ S3 fun F4 H4 σ4 e4 S4 => p F4 H4 σ4 (((w.f.trans e2).trans w3.f).trans e4) S4
    · obtain ⟨hn, F2, e2, S2⟩ := h
      have e : m = ds.length := by omega
      rcases hd with ⟨_, rfl⟩ | ⟨d', e1, h1, _⟩
      · rw [← e] at S2
        exact p F2 H σ (w.f.trans e2) S2
      · have := (List.getElem?_eq_some_iff.mp h1).1
        omega
/-- a fold -/
theorem se_fold {α S : Type} {wi : TI} {tb : TS} {ds : List Dt} (xs : List α) (dec : α → Dt) (hds : ds = xs.map dec) (hI : Ie K wi env ds) (enc : S → En) (step : S → α → S) (P : S → List α → Prop) (s0 : S) (h0 : Le env (enc s0)) (p0 : P s0 [])
    (hs : ∀ s pre a post, xs = pre ++ a :: post → P s pre → P (step s a) (pre ++ [a]) ∧ ∃ e1, Ge K g (dec a) (enc s) e1 ∧ Se K tb e1 (.nc (enc (step s a)))) : Se K (tFor wi g tb) env (.nx (enc (xs.foldl step s0))) := by
  subst hds
  have key : ∀ i, i ≤ xs.length → P ((xs.take i).foldl step s0) (xs.take i) := by
    intro i
    induction i with
    | zero => intro _; exact p0
    | succ i ih =>
      intro hi
      have hx : xs = xs.take i ++ xs[i] :: xs.drop (i + 1) := by simp
      have e : xs.take (i + 1) = xs.take i ++ [xs[i]] := by simp
      rw [e, List.foldl_append]
      exact (hs _ (xs.take i) xs[i] (xs.drop (i + 1)) hx (ih (by omega))).1
  refine se_for hI (fun i => enc ((xs.take i).foldl step s0)) xs.length (by simp) h0 (fun i d hi hd => ?_) (.inl ⟨by simp, by simp⟩)
  rw [List.getElem?_map, List.getElem?_eq_getElem hi] at hd
  cases hd
  have hx : xs = xs.take i ++ xs[i] :: xs.drop (i + 1) := by simp
  obtain ⟨_, e1, h1, h2⟩ := hs _ (xs.take i) xs[i] (xs.drop (i + 1)) hx (key i (by omega))
  refine ⟨e1, h1, ?_⟩
  have e : xs.take (i + 1) = xs.take i ++ [xs[i]] := by simp
  rw [e, List.foldl_append]
  exact h2
theorem se_while {tb : TS} (P : En → Prop) (μ : En → Nat) (hs : ∀ e, P e → ∃ b, Te K t e b ∧ (b = true → (∃ e', P e' ∧ μ e' < μ e ∧ Se K tb e (.nc e')) ∨ (∃ z, o = .rt z ∧ Se K tb e (.rt z)) ∨ ∃ e', o = .nx e' ∧ Se K tb e (.bk e')) ∧ (b = false → o = .nx e)) (h0 : P env) : Se K (tWhile t tb) env o := fun F0 H0 F H σ D S p => by
  refine ⟨fun m σ' H' => ∃ e F', P e ∧ μ e = m ∧ Ex F F' ∧ Sm K F0 H0 F' H' σ' e, ⟨_, env, F, h0, rfl, Ex.refl F, S⟩, ?_⟩
  rintro m σ' H' ⟨e, F', hP, rfl, ex, S'⟩
  obtain ⟨b, hb, h1, h2⟩ := hs e hP
  refine hb F0 H0 F' H' σ' S' _ fun F1 H1 w => ?_
  cases b with
  | true =>
    refine ⟨fun σ2 H2 => ∃ e2 F2, P e2 ∧ μ e2 < μ e ∧ Ex F F2 ∧ Sm K F0 H0 F2 H2 σ2 e2, fun σ2 H2 ⟨e2, F2, a, b, c, d⟩ => ⟨μ e2, b, e2, F2, a, rfl, c, d⟩, ?_⟩
    rcases h1 rfl with ⟨e', p1, p2, p3⟩ | ⟨z, rfl, p3⟩ | ⟨e', rfl, p3⟩
    · exact p3 F0 H0 F1 H1 σ' _ (S'.wk w) fun F4 H4 σ4 e4 S4 => ⟨⟨e', F4, p1, p2, (ex.trans w.f).trans e4, S4⟩, ⟨e', F4, p1, p2, (ex.trans w.f).trans e4, S4⟩⟩
    · exact p3 F0 H0 F1 H1 σ' _ (S'.wk w) p
    · exact p3 F0 H0 F1 H1 σ' _ (S'.wk w) fun F4 H4 σ4 e4 S4 => p F4 H4 σ4 ((ex.trans w.f).trans e4) S4
  | false =>
    have := h2 rfl
    subst this
    exact p F1 H1 σ' (ex.trans w.f) (S'.wk w)
end
end Pw
set_option maxHeartbeats 2000000
namespace Pw
open PySem PySem.Spec PyProof.Rows L2 Evl
/-- the def x of the text stands behind the top as st tells it -/
def Df (K : PySem.W.Frag) (mg : Str → Option Value) (x : Str) (ps : List Str) (st : Stmt) : Prop :=
  ∃ f fd, mg x = some (.ref f) ∧ FunD K x x (defArgs st) (defBody st) (defScope st) [] [] f fd ∧ Binds K fd ps []
/-- x is called by name and keeps sp -/
def Fn (P : Program) (w : World) (K : PySem.W.Frag) (mg : Str → Option Value) (base : Heap) (k : Nat) (x : Str) (ps : List Str) (sp : Sp) : Prop :=
  ∃ f fd, mg x = some (.ref f) ∧ PySem.W.keepIn K (.ref f) = true ∧ Binds K fd ps [] ∧ FnOk P w K mg base CX0 k f fd ps sp
section
variable {P : Program} {w : World} {K : PySem.W.Frag} {mg : Str → Option Value} {base : Heap}
theorem Fn.mono {j k : Nat} {x : Str} {ps : List Str} {sp : Sp} (F : Fn P w K mg base j x ps sp) (h : j ≤ k) : Fn P w K mg base k x ps sp := by
  obtain ⟨f, fd, h1, h2, h3, h4⟩ := F
  exact ⟨f, fd, h1, h2, h3, h4.mono h⟩
theorem Fn.imp {k : Nat} {x : Str} {ps : List Str} {sp sp' : Sp} (F : Fn P w K mg base k x ps sp) (h : ∀ vs H Q E, sp' vs H Q E → sp vs H Q E) : Fn P w K mg base k x ps sp' := by
  obtain ⟨f, fd, h1, h2, h3, h4⟩ := F
  exact ⟨f, fd, h1, h2, h3, h4.imp h⟩
/-- THE RULE for a def that is a function of data -/
theorem Fn.of {x : Str} {ps N : List Str} {st : Stmt} {k : Nat} {m : List Dt → Option Dt} (D : Df K mg x ps st) (S : FnScope N ps (defScope st)) (hl : ∀ ds d, m ds = some d → ds.length = ps.length)
    (hb : ∀ (f : Addr) (cdv : Value) (A : Around) (outer : List Env) (s : Shared) (H : Hp) (E : XK), Room k (A.deeper (envOfC x (defScope st) s.heap.objs.size f cdv)) →
      ∃ t, PSs (cxOf CX0 P w K mg base N x (defScope st) f cdv A outer s H E).nox (defBody st) t ∧ ∀ ds d, m ds = some d → Se K t (ds.map Sl.d ++ List.replicate (N.length - ds.length) Sl.u) (.rt d)) :
    Fn P w K mg base (k + 1) x ps (spF K m) := by
  obtain ⟨f, fd, h1, F, h3⟩ := D
  refine ⟨f, fd, h1, F.kp, h3, F.ok S (fun vs H Q E h => spF_len hl vs H Q E h) fun cdv A outer s H vs Q E hr h => ?_⟩
  obtain ⟨t, ht, hs⟩ := hb f cdv A outer s H E hr
  exact ⟨t, PSs.nox ht, run_rt h hs⟩
end
section
variable {X : Cx}
/-- a builtin, a built-in type, called; given that the module does not name it -/
theorem pset {i : Nat} {x : Str} {e : Expr} {te : TE} {pos pos' : Pos} (hN : X.N.Nodup) (he : PE X e te) (hi : X.N[i]? = some x := by rfl) (hx : Loc X.env.scope x := by first | exact Or.inl rfl | exact Or.inr rfl) (hs : swapsWith e (some (.Name x pos')) pos.line X.env = pure false := by rfl)
    (hf : X.fn x = true ∨ X.env.scope.names.lookup x = some .local := by first | exact .inl rfl | exact .inr rfl | assumption) : PS X (.Assign [.Name x pos'] e pos) (tAsg te (gName i)) := ps_set hN hi hx he hs hf
theorem pgn {i : Nat} {x : Str} {pos : Pos} (hN : X.N.Nodup) (hi : X.N[i]? = some x := by rfl) (hx : Loc X.env.scope x := by first | exact Or.inl rfl | exact Or.inr rfl)
    (hf : X.fn x = true ∨ X.env.scope.names.lookup x = some .local := by first | exact .inl rfl | exact .inr rfl | assumption) : PG X (.Name x pos) (gName i) := pg_name hN hi hx hf
/-- isinstance(x, T) for a built-in T -/
theorem pe_tyname {x : Str} {n : String} {pos : Pos} (hm : X.mg x = none) (hg : Gl X x := by rfl) (hv : bootBuiltins x = some (.type n) := by decide +kernel) (hn : x ≠ "__name__" := by decide) (hdb : (x == ("__debug__" : Str)) = false := by decide) : PE X (.Name x pos) (tC (.ty n)) := pe_bltn hg hm hv rfl hn hdb
end
section
variable {K : PySem.W.Frag} {d e z : Dt} {ds : List Dt}
/-- the type's name of data -/
def tyD : Dt → Option String
  | .non => some "NoneType"
  | .bl _ => some "bool"
  | .int _ => some "int"
  | .str _ => some "str"
  | .tup _ => some "tuple"
  | .lst _ => some "list"
  | .dic _ _ => some "dict"
  | .dit _ _ => some "dict"
  | _ => none
theorem tyX_l {H : Hp} {a : Addr} {xs : List V} (h : SqL K H a xs) : TyX K H (.ref a) (.type "list") := by
  rcases h with (h | ⟨o, h⟩) | ⟨o, its, n, h1, h2, _⟩
  · exact .base (.lst h)
  · exact .base (.frz h)
  · exact .kList h1 h2
theorem tyX_t {H : Hp} {a : Addr} {xs : List V} (h : SqT K H a xs) : TyX K H (.ref a) (.type "tuple") := by
  rcases h with (h | ⟨o, h⟩) | ⟨o, its, n, h1, h2, _⟩
  · exact .base (.tup h)
  · exact .fTuple h
  · exact .kTuple h1 h2
theorem tyX_of {F H : Hp} {v : V} {n : String} (s : Ex F H) (r : Rp K F d v) (h : tyD d = some n) : TyX K H v (.type n) := by
  cases d <;> simp only [tyD, Option.some.injEq, reduceCtorEq] at h <;> subst h
  · cases r; exact .base .non
  · cases r; exact .base (.bl _)
  · cases r; exact .base (.int _)
  · cases r; exact .base (.str _)
  · obtain ⟨a, vs, rfl, h1, _⟩ := r
    exact tyX_t (ex_t s h1)
  · obtain ⟨a, vs, rfl, h1, _⟩ := r
    exact tyX_l (ex_l s h1)
  · obtain ⟨a, vs, rfl, h1, _⟩ := r
    exact .base (.dK (s _ _ h1))
  · obtain ⟨a, vs, rfl, h1, _⟩ := r
    exact .base (.dT (s _ _ h1))
theorem rl_isi {n t : String} {b : Bool} (h : tyD d = some n) (hb : kitB n t = some b) : RLd K (rIsi K) [d, .ty t] (.bl b) := fun F H vs s r Q q => by
  obtain ⟨v, r1, rfl, e1, v2, r2, rfl, e2, e3⟩ := r
  cases e2; cases e3
  exact ⟨v, .ty t, .type n, .type t, b, rfl, .ty t, tyX_of s e1 h, kit_ty hb, q _ F H (Wk.refl s) rfl⟩
theorem rl_lenS {w : Str} (h : w.length ≤ 100000) : RLd K (fun xs H Q => ∃ z, xs = [.str z] ∧ z.length ≤ sizeLine ∧ Q (.int z.length) H) [.str w] (.int w.length) := fun F H vs s r Q q => by
  obtain ⟨v, r1, rfl, e1, e2⟩ := r
  cases e1; cases e2
  exact ⟨w, rfl, sz_of h, q _ F H (Wk.refl s) rfl⟩
theorem rl_len : RLd K (rLenS K) [.lst ds] (.int ds.length) := fun F H vs s r Q q => by
  obtain ⟨v, r1, rfl, ⟨a, us, rfl, h1, h2⟩, e2⟩ := r
  cases e2
  refine ⟨a, us, rfl, .inl (ex_l s h1), ?_⟩
  rw [← h2.length]
  exact q _ F H (Wk.refl s) rfl
theorem rl_lenT : RLd K (rLenS K) [.tup ds] (.int ds.length) := fun F H vs s r Q q => by
  obtain ⟨v, r1, rfl, ⟨a, us, rfl, h1, h2⟩, e2⟩ := r
  cases e2
  refine ⟨a, us, rfl, .inr (ex_t s h1), ?_⟩
  rw [← h2.length]
  exact q _ F H (Wk.refl s) rfl
theorem rn_list : RLn K (rListS K) [.lst ds] ds := fun F H vs s r Q q => by
  obtain ⟨v, r1, rfl, ⟨a, us, rfl, h1, h2⟩, e2⟩ := r
  cases e2
  exact ⟨a, us, rfl, .inl (ex_l s h1), fun l hl => q l us F _ (Wk.own s _ hl) hl (none_sub s hl) upd_same h2⟩
theorem rn_listT : RLn K (rListS K) [.tup ds] ds := fun F H vs s r Q q => by
  obtain ⟨v, r1, rfl, ⟨a, us, rfl, h1, h2⟩, e2⟩ := r
  cases e2
  exact ⟨a, us, rfl, .inr (ex_t s h1), fun l hl => q l us F _ (Wk.own s _ hl) hl (none_sub s hl) upd_same h2⟩
def rTupS (K : PySem.W.Frag) : List V → Hp → VK → Prop := fun xs H Q => ∃ p ys, xs = [.ref p] ∧ ((SqL K H p ys ∧ ∀ l, H l = none → Q (.ref l) (upd H l (.tup ys))) ∨ (SqT K H p ys ∧ Q (.ref p) H))
theorem rl_tup : RLd K (rTupS K) [.lst ds] (.tup ds) := fun F H vs s r Q q => by
  obtain ⟨v, r1, rfl, ⟨a, us, rfl, h1, h2⟩, e2⟩ := r
  cases e2
  exact ⟨a, us, rfl, .inl ⟨ex_l s h1, fun l hl => q _ (upd F l (.tup us)) _ (Wk.new s _ hl) ⟨l, us, rfl, SqT.of upd_same, h2.mono (Ex.new (none_sub s hl))⟩⟩⟩
theorem rl_tupT : RLd K (rTupS K) [.tup ds] (.tup ds) := fun F H vs s r Q q => by
  obtain ⟨v, r1, rfl, ⟨a, us, rfl, h1, h2⟩, e2⟩ := r
  cases e2
  exact ⟨a, us, rfl, .inr ⟨ex_t s h1, q _ F H (Wk.refl s) ⟨a, us, rfl, h1, h2⟩⟩⟩
def rInt1 : List V → Hp → VK → Prop := fun xs H Q => (∃ i, xs = [.int i] ∧ Q (.int i) H) ∨ ∃ k, xs = [.bl k] ∧ Q (.int (if k then 1 else 0)) H
theorem rl_int {i : Int} : RLd K rInt1 [.int i] (.int i) := fun F H vs s r Q q => by
  obtain ⟨v, r1, rfl, e1, e2⟩ := r
  cases e1; cases e2
  exact .inl ⟨i, rfl, q _ F H (Wk.refl s) rfl⟩
def rMin2 : List V → Hp → VK → Prop := fun xs H Q => ∃ i j, xs = [.int i, .int j] ∧ Q (.int (if j < i then j else i)) H
theorem rl_max2 {i j : Int} : RLd K rMax2 [.int i, .int j] (.int (if j > i then j else i)) := fun F H vs s r Q q => by
  obtain ⟨v, r1, rfl, e1, v2, r2, rfl, e2, e3⟩ := r
  cases e1; cases e2; cases e3
  exact ⟨i, j, rfl, q _ F H (Wk.refl s) rfl⟩
theorem rl_min2 {i j : Int} : RLd K rMin2 [.int i, .int j] (.int (if j < i then j else i)) := fun F H vs s r Q q => by
  obtain ⟨v, r1, rfl, e1, v2, r2, rfl, e2, e3⟩ := r
  cases e1; cases e2; cases e3
  exact ⟨i, j, rfl, q _ F H (Wk.refl s) rfl⟩
theorem rl_all {bs : List Bool} : RLd K (rAll K) [.lst (bs.map .bl)] (.bl (bs.all id)) := fun F H vs s r Q q => by
  obtain ⟨v, r1, rfl, ⟨a, us, rfl, h1, h2⟩, e2⟩ := r
  cases e2
  cases h2.bls
  exact ⟨a, bs, rfl, ex_l s h1, q _ F H (Wk.refl s) rfl⟩
theorem rl_any {bs : List Bool} : RLd K (rAny K) [.lst (bs.map .bl)] (.bl (bs.any id)) := fun F H vs s r Q q => by
  obtain ⟨v, r1, rfl, ⟨a, us, rfl, h1, h2⟩, e2⟩ := r
  cases e2
  cases h2.bls
  exact ⟨a, bs, rfl, ex_l s h1, q _ F H (Wk.refl s) rfl⟩
end
section
variable {X : Cx}
theorem cr_int : CallR X (.type "int") rInt1 := call_int1
theorem cr_min2 (hc : X.calm = true) : CallR X (.builtin "min") rMin2 := call_min2 hc
theorem cr_max2 (hc : X.calm = true) : CallR X (.builtin "max") rMax2 := call_max2 hc
theorem cr_list : CallR X (.type "list") (rListS X.K) := call_list_of
theorem cr_tuple : CallR X (.type "tuple") (rTupS X.K) := call_tuple_of
theorem cr_len : CallR X (.builtin "len") (rLenS X.K) := call_len_seq
end
end Pw
namespace Pw
open PySem PySem.Spec PyProof.Rows L2 Evl
section
variable {X : Cx}
theorem pe_globI {x : Str} {i : Int} {pos : Pos} (h : ∃ t, X.mg x = some (.int i t)) (hg : Gl X x := by rfl) (hd : (x == ("__debug__" : Str)) = false := by decide) : PE X (.Name x pos) (tC (.int i)) := by
  obtain ⟨t, h⟩ := h
  exact pe_glob hg h ⟨t, rfl⟩ hd
theorem pe_globS {x : Str} {i : Str} {pos : Pos} (h : ∃ t, X.mg x = some (.str i t)) (hg : Gl X x := by rfl) (hd : (x == ("__debug__" : Str)) = false := by decide) : PE X (.Name x pos) (tC (.str i)) := by
  obtain ⟨t, h⟩ := h
  exact pe_glob hg h ⟨t, rfl⟩ hd
end
end Pw
namespace Pw
open PySem PySem.Spec PyProof.Rows L2 Evl
def isI : Dt → Bool
  | .int _ => true
  | _ => false
def isB : Dt → Bool
  | .bl _ => true
  | _ => false
def isS : Dt → Bool
  | .str _ => true
  | _ => false
def isTp : Dt → Bool
  | .tup _ => true
  | _ => false
def isL : Dt → Bool
  | .lst _ => true
  | _ => false
section
variable {K : PySem.W.Frag} {d : Dt}
theorem rl_isInt (h : (tyD d).isSome = true) : RLd K (rIsi K) [d, .ty "int"] (.bl (isI d || isB d)) := by
  cases d
  · exact rl_isi rfl (show kitB "NoneType" "int" = some false by decide +kernel)
  · exact rl_isi rfl (show kitB "bool" "int" = some true by decide +kernel)
  · exact rl_isi rfl (show kitB "int" "int" = some true by decide +kernel)
  · exact rl_isi rfl (show kitB "str" "int" = some false by decide +kernel)
  · exact rl_isi rfl (show kitB "tuple" "int" = some false by decide +kernel)
  · exact rl_isi rfl (show kitB "list" "int" = some false by decide +kernel)
  · exact rl_isi rfl (show kitB "dict" "int" = some false by decide +kernel)
  · exact rl_isi rfl (show kitB "dict" "int" = some false by decide +kernel)
  all_goals cases h
theorem rl_isBool (h : (tyD d).isSome = true) : RLd K (rIsi K) [d, .ty "bool"] (.bl (isB d)) := by
  cases d
  · exact rl_isi rfl (show kitB "NoneType" "bool" = some false by decide +kernel)
  · exact rl_isi rfl (show kitB "bool" "bool" = some true by decide +kernel)
  · exact rl_isi rfl (show kitB "int" "bool" = some false by decide +kernel)
  · exact rl_isi rfl (show kitB "str" "bool" = some false by decide +kernel)
  · exact rl_isi rfl (show kitB "tuple" "bool" = some false by decide +kernel)
  · exact rl_isi rfl (show kitB "list" "bool" = some false by decide +kernel)
  · exact rl_isi rfl (show kitB "dict" "bool" = some false by decide +kernel)
  · exact rl_isi rfl (show kitB "dict" "bool" = some false by decide +kernel)
  all_goals cases h
theorem rl_isStr (h : (tyD d).isSome = true) : RLd K (rIsi K) [d, .ty "str"] (.bl (isS d)) := by
  cases d
  · exact rl_isi rfl (show kitB "NoneType" "str" = some false by decide +kernel)
  · exact rl_isi rfl (show kitB "bool" "str" = some false by decide +kernel)
  · exact rl_isi rfl (show kitB "int" "str" = some false by decide +kernel)
  · exact rl_isi rfl (show kitB "str" "str" = some true by decide +kernel)
  · exact rl_isi rfl (show kitB "tuple" "str" = some false by decide +kernel)
  · exact rl_isi rfl (show kitB "list" "str" = some false by decide +kernel)
  · exact rl_isi rfl (show kitB "dict" "str" = some false by decide +kernel)
  · exact rl_isi rfl (show kitB "dict" "str" = some false by decide +kernel)
  all_goals cases h
theorem rl_isTup (h : (tyD d).isSome = true) : RLd K (rIsi K) [d, .ty "tuple"] (.bl (isTp d)) := by
  cases d
  · exact rl_isi rfl (show kitB "NoneType" "tuple" = some false by decide +kernel)
  · exact rl_isi rfl (show kitB "bool" "tuple" = some false by decide +kernel)
  · exact rl_isi rfl (show kitB "int" "tuple" = some false by decide +kernel)
  · exact rl_isi rfl (show kitB "str" "tuple" = some false by decide +kernel)
  · exact rl_isi rfl (show kitB "tuple" "tuple" = some true by decide +kernel)
  · exact rl_isi rfl (show kitB "list" "tuple" = some false by decide +kernel)
  · exact rl_isi rfl (show kitB "dict" "tuple" = some false by decide +kernel)
  · exact rl_isi rfl (show kitB "dict" "tuple" = some false by decide +kernel)
  all_goals cases h
theorem rl_isList (h : (tyD d).isSome = true) : RLd K (rIsi K) [d, .ty "list"] (.bl (isL d)) := by
  cases d
  · exact rl_isi rfl (show kitB "NoneType" "list" = some false by decide +kernel)
  · exact rl_isi rfl (show kitB "bool" "list" = some false by decide +kernel)
  · exact rl_isi rfl (show kitB "int" "list" = some false by decide +kernel)
  · exact rl_isi rfl (show kitB "str" "list" = some false by decide +kernel)
  · exact rl_isi rfl (show kitB "tuple" "list" = some false by decide +kernel)
  · exact rl_isi rfl (show kitB "list" "list" = some true by decide +kernel)
  · exact rl_isi rfl (show kitB "dict" "list" = some false by decide +kernel)
  · exact rl_isi rfl (show kitB "dict" "list" = some false by decide +kernel)
  all_goals cases h
end
end Pw
namespace Pw
open PySem PySem.Spec PyProof.Rows L2 Evl
section
variable {K : PySem.W.Frag} {env E : En} {g : TG} {tb : TS} {wi : TI} {ds : List Dt}
theorem find_split {α : Type} {p : α → Bool} : ∀ {l : List α} {d : α}, l.find? p = some d → ∃ i : Nat, l[i]? = some d ∧ p d = true ∧ ∀ (j : Nat) x, j < i → l[j]? = some x → p x = false
  | a :: l, d, h => by
    rw [List.find?_cons] at h
    cases q : p a with
    | true =>
      rw [q] at h
      cases h
      exact ⟨0, rfl, q, fun j x hj _ => by omega⟩
    | false =>
      rw [q] at h
      obtain ⟨i, h1, h2, h3⟩ := find_split h
      refine ⟨i + 1, by simpa using h1, h2, fun j x hj hx => ?_⟩
      cases j with
      | zero =>
        simp at hx
        rw [← hx]
        exact q
      | succ j => exact h3 j x (by omega) (by simpa using hx)
/-- a loop that searches: at the first d with p d it returns z d -/
theorem se_find (p : Dt → Bool) (z : Dt → Dt) (hI : Ie K wi env ds) (E : En) (h0 : Le env E) (hs : ∀ d ∈ ds, ∃ e1, Ge K g d E e1 ∧ (p d = true → Se K tb e1 (.rt (z d))) ∧ (p d = false → Se K tb e1 (.nc E))) :
    Se K (tFor wi g tb) env (match ds.find? p with | some d => .rt (z d) | none => .nx E) := by
  cases h : ds.find? p with
  | none =>
    have hn : ∀ d ∈ ds, p d = false := fun d hd => by
      have := List.find?_eq_none.mp h d hd
      simpa using this
    refine se_for hI (fun _ => E) ds.length (Nat.le_refl _) h0 (fun i d hi hd => ?_) (.inl ⟨rfl, rfl⟩)
    have hm := List.mem_of_getElem? hd
    obtain ⟨e1, h1, _, h3⟩ := hs d hm
    exact ⟨e1, h1, h3 (hn d hm)⟩
  | some d =>
    obtain ⟨i, h1, h2, h3⟩ := find_split h
    have hi : i < ds.length := (List.getElem?_eq_some_iff.mp h1).1
    refine se_for hI (fun _ => E) i (Nat.le_of_lt hi) h0 (fun j x hj hx => ?_) (.inr ?_)
    · obtain ⟨e1, g1, _, g3⟩ := hs x (List.mem_of_getElem? hx)
      exact ⟨e1, g1, g3 (h3 j x hj hx)⟩
    · obtain ⟨e1, g1, g2, _⟩ := hs d (List.mem_of_getElem? h1)
      exact ⟨d, e1, h1, g1, .inl ⟨z d, rfl, g2 h2⟩⟩
theorem itemD {α : Type} {l : List α} {i : Nat} (d : α) (h : i < l.length) : l[i]? = some (l.getD i d) := by
  rw [List.getD_eq_getElem?_getD, List.getElem?_eq_getElem h]
  rfl
/-- an item of a list at a remainder -/
theorem r2_ixM {i : Int} {n : Int} (h0 : 0 < n) (hn : n ≤ (ds.length : Int)) : R2d K (rIxL K) (.lst ds) (.int (i % n)) (ds.getD (i % n).toNat .non) := by
  have h1 := Int.emod_nonneg i (show n ≠ 0 by omega)
  have h2 := Int.emod_lt_of_pos i h0
  exact r2_ixL (ixN_at h1 (by omega)) (itemD _ (by omega))
end
end Pw
set_option maxHeartbeats 1000000
namespace Pw
open PySem PySem.Spec PyProof.Rows L2 Evl
end Pw
set_option maxHeartbeats 1000000
namespace Pw
open PySem PySem.Spec PyProof.Rows L2 Evl
/-- the promise of an __init__ that stores its two arguments -/
def spX2 (C : Addr) (f1 f2 : Str) : Sp := fun vs H Q _ => ∃ (a : Addr) (v1 v2 : V), vs = [.ref a, v1, v2] ∧ H a = some (exo a C none) ∧
  ∀ dx H', H dx = none → dx ≠ a → H' a = some (exo a C (some dx)) → H' dx = some (exd dx [(f2, v2), (f1, v1)]) → (∀ b, b ≠ a → b ≠ dx → H' b = H b) → Q .non H'
section
variable {K : PySem.W.Frag} {env : En} {te tb : TE} {ta : TA} {d e z : Dt} {ds : List Dt}
theorem zip_lookup {K : PySem.W.Frag} {F : Hp} {n : Str} : ∀ {fs : List Str} {ds : List Dt} {vs : List V} {d : Dt}, RpL K F ds vs → (fs.zip ds).lookup n = some d → ∃ v, (fs.zip vs).lookup n = some v ∧ Rp K F d v
  | [], ds, vs, d, _, h => by simp at h
  | f :: fs, [], vs, d, _, h => by simp at h
  | f :: fs, e :: ds, vs, d, r, h => by
    obtain ⟨v, r', rfl, q1, q2⟩ := r
    rw [List.zip_cons_cons, List.lookup_cons] at h ⊢
    by_cases z : (n == f) = true
    · rw [z] at h ⊢
      cases h
      exact ⟨v, rfl, q1⟩
    · have z : (n == f) = false := by simpa using z
      rw [z] at h ⊢
      exact zip_lookup q2 h
end
end Pw
namespace Pw
open PySem PySem.Spec PyProof.Rows L2 Evl
/-- the class x of the text, at C, makes exceptions by its own __init__ with the promise sp -/
def Xm (P : Program) (w : World) (K : PySem.W.Frag) (mg : Str → Option Value) (base : Heap) (x : Str) (C : Addr) (sp : Sp) : Prop :=
  ∃ (fI : Addr) (fd : FuncData) (ps : List Str), mg x = some (.ref C) ∧ OexC K C ∧ PySem.W.findIn K (.ref C) "__init__" = some (some (.ref fI)) ∧ PySem.W.typeIn K (.ref fI) = some (.type "function") ∧ Binds K fd ps [] ∧ FnOk P w K mg base CX0 1 fI fd ps sp
/-- .. without an __init__ -/
def Xm0 (K : PySem.W.Frag) (mg : Str → Option Value) (x : Str) (C : Addr) : Prop :=
  mg x = some (.ref C) ∧ PySem.W.excIn K C [.type "ValueError", .type "Exception", .type "BaseException", .type "object"] "ValueError.__new__" = true ∧ PySem.W.keepIn K (.ref C) = true
end Pw
namespace Pw
open PySem PySem.Spec PyProof.Rows L2 Evl
theorem pe_globR {X : Cx} {x : Str} {a : Addr} {pos : Pos} (h : X.mg x = some (.ref a)) (hg : Gl X x := by rfl) (hd : (x == ("__debug__" : Str)) = false := by decide) : PE X (.Name x pos) (tC (.ref a)) := pe_glob hg h rfl hd
end Pw
namespace Pw
open PySem PySem.Spec PyProof.Rows L2 Evl
section
variable {K : PySem.W.Frag} {env : En} {te : TE} {tA : TA} {g : TG} {tb : TS}
theorem rangeD_nat (n : Nat) : rangeD 0 (n : Int).toNat = (List.range n).map fun (i : Nat) => Dt.int (i : Int) := by
  unfold rangeD
  rw [Int.toNat_natCast]
  refine List.map_congr_left fun i _ => ?_
  rw [Int.zero_add]
/-- for i in range(n) -/
theorem se_rng {S : Type} (n : Nat) (h : EeA K tA env [.int (n : Int)]) (hn : n ≤ 100000) (enc : S → En) (step : S → Nat → S) (P : S → Nat → Prop) (s0 : S) (h0 : Le env (enc s0)) (p0 : P s0 0)
    (hs : ∀ s (i : Nat), i < n → P s i → P (step s i) (i + 1) ∧ ∃ e1, Ge K g (.int (i : Int)) (enc s) e1 ∧ Se K tb e1 (.nc (enc (step s i)))) : Se K (tFor (iRng1 tA) g tb) env (.nx (enc ((List.range n).foldl step s0))) := by
  refine se_fold (List.range n) (fun i => Dt.int (i : Int)) (rangeD_nat n) (ie_rng1 h (by omega)) enc step (fun s pre => P s pre.length) s0 h0 p0 fun s pre i post hx hp => ?_
  have hi : pre.length < n ∧ i = pre.length := by
    have h1 := congrArg List.length hx
    have h2 : (List.range n)[pre.length]? = some i := by rw [hx]; simp
    simp at h1
    rw [List.getElem?_range (by omega)] at h2
    exact ⟨by omega, (Option.some.inj h2).symm⟩
  obtain ⟨hl, rfl⟩ := hi
  obtain ⟨h1, h2⟩ := hs s pre.length hl hp
  refine ⟨?_, h2⟩
  rw [List.length_append]
  exact h1
end
end Pw
set_option maxHeartbeats 3200000
namespace Qs
open PySem PySem.Spec PyProof.Rows L2
def memK (ks : List Key) : Key → Bool := fun k => ks.any fun j => decide (k = j)
theorem setOf_eq {P : Program} {w : World} {h : Heap} {a : Addr} {S T : Key → Bool} {n : Nat} (q : h.SetOf (mixKind P w) a S n) (e : ∀ k, S k = T k) : h.SetOf (mixKind P w) a T n := (funext e : S = T) ▸ q
section
variable {prog : Program} {w : World} {A : Around} {R : Result → Shared → Prop} {I : Addr} {fp wr : List Addr}
  {G : Array GenState → Array GenState → Prop} {n : Nat} {Y : Nat → Value → Prop} {St : Nat → Shared → Prop}
def SetUp (prog : Program) (w : World) (S : Addr) (ks : List Key) (i : Nat) (h : Heap) : Prop :=
  ∃ m, m ≤ i ∧ h.SetOf (mixKind prog w) S (memK (ks.take i)) m
theorem SetUp.move {S : Addr} {ks : List Key} {i : Nat} {h h' : Heap} (q : SetUp prog w S ks i h) (k : ∀ o, h.get? S = some o → h'.get? S = some o) : SetUp prog w S ks i h' := by
  obtain ⟨m, hm, r⟩ := q
  exact ⟨m, hm, setOf_at r k⟩
theorem updates (W : WalksS prog w A.in1 I fp wr G n Y St) (S : Addr) (nS : S ∉ fp) (ks : List Key)
    (hY : ∀ i v, Y i v → ∃ k, ks[i]? = some k ∧ RelV (kV k) v) (hb : n + 1 < scanBound) :
    ∀ (left i : Nat) (s : Shared), n - i = left → i ≤ n → St i s → SetUp prog w S ks i s.heap →
      (∀ s', Moved (S :: wr) G s s' → SetUp prog w S ks n s'.heap → R (.ok (.ret .none)) s') →
      codeAny (model prog w) A (.builtin "set.update.loop" ⟨[.ref S, .ref I], []⟩) R s := by
  have nw : S ∉ wr := fun z => nS (W.sub _ z)
  have sub : ∀ b ∈ wr, b ∈ S :: wr := fun b z => List.mem_cons_of_mem _ z
  intro left
  induction left with
  | zero =>
    intro i s e le st up done
    obtain rfl : i = n := by omega
    refine codeAny_builtin F.entry_set_update_loop ?_
    rw [Around.under_plainId F.plain_set_update_loop _]
    refine wpAny_bind (m := pyNext (.ref I)) (W.done s _ _ st fun s' hm => ?_)
    exact wpAny_pure (done s' (hm.mono sub) (up.move fun o z => hm.heap S _ nw z))
  | succ left ih =>
    intro i s e le st up done
    have lt : i < n := by omega
    refine codeAny_builtin F.entry_set_update_loop ?_
    rw [Around.under_plainId F.plain_set_update_loop _]
    refine wpAny_bind (m := pyNext (.ref I)) (W.item i s _ _ lt st fun v s' y st' hm => ?_)
    obtain ⟨k, hk, rk⟩ := hY i v y
    obtain ⟨m, hmi, up'⟩ := up.move (h' := s'.heap) fun o z => hm.heap S _ nw z
    have isk := kV_is (P := prog) (w := w) rk
    refine wpAny_bind (m := holding [v] (setAdd S v)) (wpAny_holding ?_)
    unfold setAdd
    refine wpAny_holding (wpAny_bind ((mixKind prog w).pyHash isk ?_))
    refine wpAny_setAddHashed_of (s := { s' with toks := s'.toks + 1 }) isk (key_scan rk) up' (by omega) fun h' sb up2 => ?_
    have next : SetUp prog w S ks (i + 1) h' := by
      refine ⟨_, ?_, setOf_eq up2 fun j => ?_⟩
      · split <;> omega
      · show (memK (ks.take i) j || decide (j = k)) = memK (ks.take (i + 1)) j
        rw [List.take_add_one, hk]
        simp [memK]
    refine wpAny_pure ⟨plainId_quiet F.plain_set_update_loop _, ih (i + 1) _ (by omega) lt (W.frame _ s' _ _ st' (Nat.le_succ _) fun b hb o z => ?_) next fun s2 m2 u2 => ?_⟩
    · rw [sb.2 b (fun z : b = S => nS (z ▸ hb))]
      exact z
    · refine done s2 (Moved.trans W.gtrans ((hm.mono sub).then_heap (Nat.le_succ _) fun b o hb z => ?_) m2) u2
      rw [sb.2 b (fun z : b = S => hb (z ▸ List.mem_cons_self))]
      exact z
end
section
variable {prog : Program} {w : World} {A : Around} {E : Value → Shared → Prop} {s : Shared}
/-- what is known behind set(xs) -/
def SetMade (prog : Program) (w : World) (s : Shared) (ks : List Key) (h' : Heap) : Prop :=
  SetUp prog w s.heap.objs.size ks ks.length h' ∧ ∀ b o, b < s.heap.objs.size → s.heap.get? b = some o → h'.get? b = some o
theorem keysAt : ∀ {ks : List Key} {us : List Value}, Vals (ks.map kV) us → ∀ (i : Nat) (v : Value), us[i]? = some v → ∃ k : Key, ks[i]? = some k ∧ RelV (kV k) v
  | [], _, r, i, v, e => by
    cases r
    simp at e
  | k :: ks, _, r, 0, v, e => by
    cases r with
    | cons h t =>
      simp at e
      subst e
      exact ⟨k, rfl, h⟩
  | k :: ks, _, r, i + 1, v, e => by
    cases r with
    | cons h t => exact keysAt t i v (by simpa using e)
theorem keysLen : ∀ {ks : List Key} {us : List Value}, Vals (ks.map kV) us → ks.length = us.length
  | [], _, r => by cases r; rfl
  | k :: ks, _, r => by
    cases r with
    | cons h t => simp [keysLen t]
abbrev freshSet (led : Bool) : Obj := { cls := .type "set", dict := none, data := .set #[] 0 (.fresh 0 0 led) }
theorem init_set {l : Addr} {items : Array Value} {ks : List Key} (led : Bool) (calm : A.handled = none) (hl : s.heap.IsList l items)
    (hi : Vals (ks.map kV) items.toList) (hb : ks.length + 1 < scanBound) :
    codeAny (model prog w) A (.call (.builtin "set.__init__") ⟨[.ref s.heap.objs.size, .ref l], []⟩)
      (wants (fun r s2 => r = .none ∧ ∃ h' tk, s2 = { s with heap := h', toks := tk } ∧ SetMade prog w s ks h') E)
      { s with heap := s.heap.push (freshSet led) } := by
  have len : ks.length = items.size := by simpa using keysLen hi
  have atS : (s.heap.push (freshSet led)).get? s.heap.objs.size = some (freshSet led) := Heap.get?_push_size _ rfl
  have tyS : Shared.TypeIs { s with heap := s.heap.push (freshSet led) } (.ref s.heap.objs.size) "set" := ⟨_, atS, rfl⟩
  obtain ⟨ol, hol, hc, nl, hd⟩ := hl
  have ltL : l < s.heap.objs.size := Heap.lt_size hol
  obtain ⟨ocls, odict, odata, oslots⟩ := ol
  simp only at hc hd
  subst hc hd
  have atL : (s.heap.push (freshSet led)).get? l = some { cls := .type "list", dict := odict, data := .seq items nl, slots := oslots } := Heap.get?_push_of_some _ hol
  have isL : (s.heap.push (freshSet led)).IsList l items := ⟨_, atL, rfl, nl, rfl⟩
  refine codeAny_call_builtin PySem.F.called_set.init.plain PySem.F.entry_set_init (check_set_init_1 tyS ?_)
  have f1 := PySem.F.sub_list_set
  have f2 := PySem.F.sub_list_frozenset
  have f3 : (Value.type "list" == Value.type "dict") = false := by decide
  unfold Builtin.«set.__init__» noKeywords Builtin.Frozenset.updateFrom
  generalize walk : pyIter = it
  wp_walk
  subst walk
  refine wpAny_pyIter_list isL (wpAny_bind (wpAny_runValue ?_))
  have hh : A.in1.in1.handled = none := by simp [calm]
  have sz : (s.heap.push (freshSet led)).objs.size = s.heap.objs.size + 1 := Heap.size_push _ _
  have n1 : l ≠ (s.heap.push (freshSet led)).objs.size := by
    rw [sz]
    exact Nat.ne_of_lt (Nat.lt_succ_of_lt ltL)
  have n2 : s.heap.objs.size ∉ [(s.heap.push (freshSet led)).objs.size, l] := by
    rw [sz]
    simp only [List.mem_cons, List.not_mem_nil, or_false, not_or]
    exact ⟨Nat.ne_of_lt (Nat.lt_succ_self _), Nat.ne_of_gt ltL⟩
  refine updates (ks := ks) ((Walks.list hh _ l n1 items).toS) s.heap.objs.size n2 (fun i v hv => keysAt hi i v (by rw [Array.getElem?_toList]; exact hv))
    (by rw [← len]; exact hb) (items.size - 0) 0 _ (by omega) (Nat.zero_le _) ?start ⟨0, Nat.le_refl _, ?_⟩ fun s' hm up => ?_
  case start => exact ⟨⟨_, Heap.get?_push_size _ rfl, rfl, rfl⟩, isL.push _⟩
  · have at2 : ((s.heap.push (freshSet led)).push { cls := .type "list_iterator", data := .fields #[.ref l, .int 0 0] }).get? s.heap.objs.size = some (freshSet led) := Heap.get?_push_of_some _ atS
    exact ⟨_, #[], 0, _, at2, ⟨rfl, rfl, rfl⟩, rfl, fun e z => by simp at z, fun k => by simp [memK], by decide, rfl, rfl⟩
  · obtain ⟨h', g', d', tk', os'⟩ := s'
    obtain rfl : g' = s.gens := hm.gens
    obtain rfl : d' = s.drawn := hm.drawn
    obtain rfl : os' = s.os := hm.os
    refine wpAny_pure (wpAny_pure ⟨rfl, h', tk', rfl, by rw [len]; exact up, fun b o hb e => ?_⟩)
    refine hm.heap b o ?_ (Heap.get?_push_of_some _ (Heap.get?_push_of_some _ e))
    rw [sz]
    simp only [List.mem_cons, List.not_mem_nil, or_false, not_or]
    exact ⟨Nat.ne_of_lt hb, Nat.ne_of_lt (Nat.lt_succ_of_lt hb)⟩
theorem made_set {l : Addr} {items : Array Value} {ks : List Key} {Q : Value → Shared → Prop} (calm : A.handled = none) (hl : s.heap.IsList l items)
    (hi : Vals (ks.map kV) items.toList) (hb : ks.length + 1 < scanBound)
    (fin : ∀ (h' : Heap) (tk : Nat), SetMade prog w s ks h' → Q (.ref s.heap.objs.size) { s with heap := h', toks := tk }) :
    wpAny (model prog w) A (call (.type "set") [.ref l]) Q E s := by
  obtain ⟨c, tl, mro⟩ := PySem.F.called_set.mro
  have q1 := PySem.F.called_set.made
  have q2 := PySem.F.called_set.sub
  have q3 := PySem.F.called_set.notType
  have q4 := PySem.F.called_set.canCreate
  have q5 := PySem.F.typeCall_set_1 (.ref l)
  refine wpAny_call (codeAny_of_tree ?_)
  show wpAny _ _ (callAny (.type "set") _) _ _ _
  refine wpAny_pure ⟨Code.quiet_builtin _ (by decide +kernel), codeAny_builtin PySem.F.entry_type_call ?_⟩
  rw [Around.under_plain (weight_type_call_type "set" [.ref l] []) rfl]
  repeat (any_goals (first | assumption | wp_step))
  refine codeAny_mono (code_set_new_1 (.ref l) (E := E) (Q₁ := fun obj t => ∃ led : Bool, obj = .ref s.heap.objs.size ∧ t = { s with heap := s.heap.push (freshSet led) }) fun led => ⟨led, rfl, rfl⟩) fun r t hr => ?_
  cases r with
  | error e => exact hr
  | ok fl =>
    cases fl with
    | ret obj =>
      obtain ⟨led, rfl, rfl⟩ := hr
      have tyS : Shared.TypeIs { s with heap := s.heap.push (freshSet led) } (.ref s.heap.objs.size) "set" := ⟨_, Heap.get?_push_size _ rfl, rfl⟩
      have q6 := PySem.F.called_set.init.lookup
      have q7 := PySem.F.called_set.init.bind (.ref s.heap.objs.size)
      repeat (any_goals (first | assumption | wp_step))
      refine codeAny_mono (init_set (E := E) led (by simp [calm]) hl hi hb) fun r2 s2 hr2 => ?_
      cases r2 with
      | error e => exact hr2
      | ok fl2 =>
        cases fl2 with
        | ret r =>
          obtain ⟨rfl, h', tk, rfl, made⟩ := hr2
          repeat (any_goals (first | assumption | wp_step))
          exact fin _ _ made
        | next => exact hr2.elim
        | brk => exact hr2.elim
        | cont => exact hr2.elim
    | next => exact hr.elim
    | brk => exact hr.elim
    | cont => exact hr.elim
/-- set(xs): a new set of the items of a list of ints and texts -/
def rSetL (K : PySem.W.Frag) (P : Program) (w : World) : List V → Hp → VK → Prop := fun xs H Q => ∃ (l : Addr) (ks : List Key), xs = [V.ref l] ∧ SqL K H l (ks.map kV) ∧ ks.length ≤ 4000 ∧
  ∀ p m, m ≤ ks.length → H p = none → Q (.ref p) (upd H p (SetK P w p (memK ks) m))
theorem cr_setL {X : Cx} (hc : X.calm = true) : CallR X (.type "set") (rSetL X.K X.prog X.w) := by
  intro pins s σ H xs us Q I r h
  obtain ⟨l, ks, rfl, hl, few, q⟩ := h
  rw [Vals.ref1 r]
  obtain ⟨its, rv, pl, _⟩ := I.list hl
  refine made_set (ks := ks) (I.ok.hd hc) pl.isList (by simpa using rv) (by unfold scanBound; omega) fun h' tk made => ?_
  obtain ⟨⟨m, hm, up⟩, keep⟩ := made
  rw [List.take_length] at up
  exact ⟨.ref s.heap.objs.size, upd H s.heap.objs.size (SetK X.prog X.w s.heap.objs.size (memK ks) m), I.laid (t' := tk) (fun b o e => keep b o (Heap.lt_size e) e) (Nat.le_refl _) (setK_new up), rfl, q _ m hm (I.hok.fresh (Nat.le_refl _))⟩
end
end Qs
set_option maxHeartbeats 1000000
namespace Qw
open PySem PySem.Spec PyProof.Rows L2 Evl
open Pw (Dt Rp RpL Wk none_sub get_set set_same set_ne R2d R1d RLd RLn Kq KqL)
inductive Ow where
  | lst (ds : List Dt) | dic (ks : List Key) (ds : List Dt) | dit (ks : List (List Key)) (ds : List Dt)
  | set (S : Key → Bool) (n : Nat) | ins (C : Addr) (fs : List Str) (ds : List Dt)
def OwOk (P : Program) (w : World) (K : PySem.W.Frag) (F : Hp) (a : Addr) : Ow → HO → Prop
  | .lst ds, o => ∃ vs, o = .lst vs ∧ RpL K F ds vs
  | .dic ks ds, o => ∃ vs, o = .dK (ks.zip vs) ∧ ks.length = vs.length ∧ RpL K F ds vs
  | .dit ks ds, o => ∃ vs, o = .dT (ks.zip vs) ∧ ks.length = vs.length ∧ RpL K F ds vs
  | .set S n, o => ∃ m, m ≤ n ∧ o = SetK P w a S m
  | .ins C fs ds, o => ∃ dx vs, o = .ins C dx (fs.zip vs) ∧ fs.length = vs.length ∧ RpL K F ds vs
/-- an exception of a class of the text -/
structure Xn where
  C : Addr
  fs : List Str
  ds : List Dt
def XnOk (K : PySem.W.Frag) (F : Hp) (x : Xn) (od : Option Addr) : Prop := (x.fs = [] ∧ od = none) ∨ ∃ dx vs, x.fs ≠ [] ∧ od = some dx ∧ x.fs.length = vs.length ∧ RpL K F x.ds vs ∧ F dx = some (.xd (x.fs.zip vs))
theorem XnOk.mono {K : PySem.W.Frag} {F F' : Hp} {x : Xn} {od : Option Addr} (e : Ex F F') (h : XnOk K F x od) : XnOk K F' x od := by
  rcases h with h | ⟨dx, vs, h0, h1, h2, h3, h4⟩
  · exact .inl h
  · exact .inr ⟨dx, vs, h0, h1, h2, h3.mono e, e _ _ h4⟩
/-- what is known of a value while a dict is walked: nothing; a dict that may be locked; the locked one -/
inductive LkI where
  | n | r (kvs : List (Key × Dt)) | l (kvs : List (Key × Dt))
def LkOk (K : PySem.W.Frag) (F : Hp) (v : V) : LkI → Prop
  | .n => True
  | .r kvs => ∃ a q, v = .ref a ∧ Rd F a (.dK q) ∧ q.map Prod.fst = kvs.map Prod.fst ∧ RpL K F (kvs.map Prod.snd) (q.map Prod.snd)
  | .l kvs => ∃ a o q, v = .ref a ∧ F a = some (.frz o (.dK q)) ∧ q.map Prod.fst = kvs.map Prod.fst ∧ RpL K F (kvs.map Prod.snd) (q.map Prod.snd)
theorem LkOk.mono {K : PySem.W.Frag} {F F' : Hp} {v : V} {x : LkI} (e : Ex F F') (h : LkOk K F v x) : LkOk K F' v x := by
  cases x with
  | n => trivial
  | r kvs =>
    obtain ⟨a, q, h1, h2, h3, h4⟩ := h
    exact ⟨a, q, h1, h2.elim (fun z => .inl (e _ _ z)) (fun ⟨o, z⟩ => .inr ⟨o, e _ _ z⟩), h3, h4.mono e⟩
  | l kvs =>
    obtain ⟨a, o, q, h1, h2, h3, h4⟩ := h
    exact ⟨a, o, q, h1, e _ _ h2, h3, h4.mono e⟩
inductive Sl where
  | x | u | d (d : Dt) | ow (t : Option Addr) (w : Ow) | ex (a : Addr) (od : Option Addr) (e : Xn) | lk (v : V) (x : LkI)
abbrev Sl.ol (ds : List Dt) : Sl := .ow none (.lst ds)
abbrev En := List Sl
section
variable (P : Program) (w : World) (K : PySem.W.Frag)
def SlOk (F H0 H : Hp) (v : Option V) : Sl → Prop
  | .x => True
  | .u => v = none
  | .d d => ∃ y, v = some y ∧ Rp K F d y
  | .ow t u => ∃ p o, v = some (.ref p) ∧ (∀ q, t = some q → p = q) ∧ F p = none ∧ H0 p = none ∧ H p = some o ∧ OwOk P w K F p u o
  | .ex a od e => v = some (.ref a) ∧ XnOk K F e od
  | .lk y x => v = some y ∧ LkOk K F y x
structure Sm (F0 H0 F H : Hp) (σ : L2.St) (env : En) : Prop where
  e0 : Ex F0 H0
  g : Wk F0 H0 F H
  len : σ.length = env.length
  sl : ∀ (i : Nat) (s : Sl), env[i]? = some s → ∃ v, σ[i]? = some v ∧ SlOk P w K F H0 H v s
  df : ∀ (i j : Nat) (t t' : Option Addr) (u u' : Ow) (p : Addr), i ≠ j → env[i]? = some (.ow t u) → env[j]? = some (.ow t' u') → σ[i]? = some (some (.ref p)) → σ[j]? ≠ some (some (.ref p))
end
/-- the addresses of the things of one's own -/
def Own (σ : L2.St) (env : En) (a : Addr) : Prop := ∃ (i : Nat) (t : Option Addr) (u : Ow), env[i]? = some (.ow t u) ∧ σ[i]? = some (some (.ref a))
/-- how the heaps go on while an expression is worked out -/
structure Wo (σ : L2.St) (env : En) (F H F' H' : Hp) : Prop where
  f : Ex F F'
  h : ∀ a o, H a = some o → ¬ Own σ env a → H' a = some o
  s : Ex F' H'
  n : ∀ a o, H a = some o → F a = none → F' a = none
  b : ∀ a, H' a = none → H a = none
/-- the same slots are one's own -/
def Sh (e e' : En) : Prop := e.length = e'.length ∧ ∀ (i : Nat) (s : Sl), e[i]? = some s → e'[i]? = some s ∨ ∃ (t : Option Addr) (u u' : Ow), s = .ow t u ∧ e'[i]? = some (.ow t u')
section
variable {P : Program} {w : World} {K : PySem.W.Frag} {F0 H0 F H F1 H1 F2 H2 F' H' : Hp} {σ : L2.St} {env env1 env2 : En}
theorem Sh.refl : Sh env env := ⟨rfl, fun _ _ h => .inl h⟩
theorem Sh.trans (a : Sh env env1) (b : Sh env1 env2) : Sh env env2 := ⟨a.1.trans b.1, fun i s h => by
  rcases a.2 i s h with h1 | ⟨t, u, u', rfl, h1⟩
  · exact b.2 i s h1
  · rcases b.2 i _ h1 with h2 | ⟨t2, v, v', e, h2⟩
    · exact .inr ⟨t, u, u', rfl, h2⟩
    · cases e
      exact .inr ⟨t, u, v', rfl, h2⟩⟩
theorem Sh.set {i : Nat} {t : Option Addr} {u u' : Ow} (h : env[i]? = some (.ow t u)) : Sh env (env.set i (.ow t u')) := ⟨by simp, fun j s e => by
  by_cases z : i = j
  · subst z
    rw [h] at e
    cases e
    exact .inr ⟨t, u, u', rfl, set_same (List.getElem?_eq_some_iff.mp h).1⟩
  · exact .inl (by rw [set_ne z]; exact e)⟩
theorem Sh.own (a : Sh env env1) {p : Addr} (h : Own σ env1 p) : Own σ env p := by
  obtain ⟨i, t, u, h1, h2⟩ := h
  have hi : i < env.length := by
    rw [a.1]
    exact (List.getElem?_eq_some_iff.mp h1).1
  rcases a.2 i env[i] (List.getElem?_eq_getElem hi) with h | ⟨t', v, v', e, h⟩
  · rw [h1] at h
    refine ⟨i, t, u, ?_, h2⟩
    rw [List.getElem?_eq_getElem hi, ← Option.some.inj h]
  · refine ⟨i, t', v, ?_, h2⟩
    rw [List.getElem?_eq_getElem hi, e]
theorem Wo.refl (s : Ex F H) : Wo σ env F H F H := ⟨Ex.refl F, fun _ _ h _ => h, s, fun _ _ _ h => h, fun _ h => h⟩
theorem Wo.of (k : Wk F H F' H') : Wo σ env F H F' H' := ⟨k.f, fun a o h _ => k.h a o h, k.s, k.n, fun a h => none_sub k.h h⟩
theorem Wo.trans (sh : Sh env env1) (a : Wo σ env F H F1 H1) (b : Wo σ env1 F1 H1 F2 H2) : Wo σ env F H F2 H2 :=
  ⟨a.f.trans b.f, fun p o h n => b.h p o (a.h p o h n) fun z => n (sh.own z), b.s, fun p o h n => (by
    cases e : H1 p with
    | some o' => exact b.n p o' e (a.n p o h n)
    | none =>
      rw [a.b p e] at h
      cases h), fun p h => a.b p (b.b p h)⟩
theorem OwOk.mono {a : Addr} {u : Ow} {o : HO} (e : Ex F F') (h : OwOk P w K F a u o) : OwOk P w K F' a u o := by
  cases u with
  | lst ds => obtain ⟨vs, h1, h2⟩ := h; exact ⟨vs, h1, h2.mono e⟩
  | dic ks ds => obtain ⟨vs, h1, h3, h2⟩ := h; exact ⟨vs, h1, h3, h2.mono e⟩
  | dit ks ds => obtain ⟨vs, h1, h3, h2⟩ := h; exact ⟨vs, h1, h3, h2.mono e⟩
  | set S n => exact h
  | ins C fs ds => obtain ⟨dx, vs, h1, h3, h2⟩ := h; exact ⟨dx, vs, h1, h3, h2.mono e⟩
theorem SlOk.wk {v : Option V} {s : Sl} (k : Wk F H F' H') (h : SlOk P w K F H0 H v s) : SlOk P w K F' H0 H' v s := by
  cases s with
  | x => trivial
  | u => exact h
  | d d => obtain ⟨y, e, r⟩ := h; exact ⟨y, e, r.mono k.f⟩
  | ex a od e => exact ⟨h.1, h.2.mono k.f⟩
  | lk y x => exact ⟨h.1, h.2.mono k.f⟩
  | ow t u =>
    obtain ⟨p, o, e, h0, h1, h2, h3, h4⟩ := h
    exact ⟨p, o, e, h0, k.n p _ h3 h1, h2, k.h p _ h3, h4.mono k.f⟩
theorem Sm.wk (S : Sm P w K F0 H0 F H σ env) (k : Wk F H F' H') : Sm P w K F0 H0 F' H' σ env :=
  ⟨S.e0, S.g.trans k, S.len, fun i s e => by
    obtain ⟨v, h1, h2⟩ := S.sl i s e
    exact ⟨v, h1, h2.wk k⟩, S.df⟩
theorem Sm.sub (S : Sm P w K F0 H0 F H σ env) : Ex F H := S.g.s
/-- an own thing's place -/
theorem Sm.own (S : Sm P w K F0 H0 F H σ env) {i : Nat} {t : Option Addr} {u : Ow} (h : env[i]? = some (.ow t u)) :
    ∃ p o, σ[i]? = some (some (.ref p)) ∧ (∀ q, t = some q → p = q) ∧ F p = none ∧ H0 p = none ∧ H p = some o ∧ OwOk P w K F p u o := by
  obtain ⟨v, h1, p, o, rfl, r⟩ := S.sl i _ h
  exact ⟨p, o, h1, r⟩
theorem Sm.ownNew (S : Sm P w K F0 H0 F H σ env) {p : Addr} (h : H p = none) : ¬ Own σ env p := fun ⟨i, t, u, e, z⟩ => by
  obtain ⟨q, o, h1, _, _, _, h3, _⟩ := S.own e
  rw [h1] at z
  cases z
  rw [h] at h3
  cases h3
/-- an object that is nobody's slot is made or changed -/
theorem Sm.upd (S : Sm P w K F0 H0 F H σ env) {p : Addr} (o : HO) (hF : F p = none) (h0 : H0 p = none) (hp : ¬ Own σ env p) : Sm P w K F0 H0 F (L2.upd H p o) σ env :=
  ⟨S.e0, ⟨S.g.f, fun a u q => by
    rw [upd_ne (ne_of_none q h0)]
    exact S.g.h a u q, fun a u q => by
    rw [upd_ne (ne_of_none q hF)]
    exact S.g.s a u q, S.g.n⟩, S.len, fun i s e => by
    obtain ⟨v, h1, h2⟩ := S.sl i s e
    refine ⟨v, h1, ?_⟩
    cases s with
    | x => trivial
    | u => exact h2
    | d d => exact h2
    | ex a od e => exact h2
    | lk y x => exact h2
    | ow t u =>
      obtain ⟨q, z, ev, g0, g1, g2, g3, g4⟩ := h2
      have ne : q ≠ p := fun z => hp ⟨i, t, u, e, by rw [h1, ev, z]⟩
      exact ⟨q, z, ev, g0, g1, g2, by rw [upd_ne ne]; exact g3, g4⟩, S.df⟩
/-- an own thing is changed -/
theorem Sm.mut (S : Sm P w K F0 H0 F H σ env) {i : Nat} {t : Option Addr} {u u' : Ow} {p : Addr} {o : HO} (hi : env[i]? = some (.ow t u)) (hp : σ[i]? = some (some (.ref p))) (r : OwOk P w K F p u' o) :
    Sm P w K F0 H0 F (L2.upd H p o) σ (env.set i (.ow t u')) := by
  obtain ⟨q, z, h1, g0, g1, g2, g3, g4⟩ := S.own hi
  rw [hp] at h1
  cases h1
  refine ⟨S.e0, ⟨S.g.f, fun a u z => ?_, fun a u z => ?_, S.g.n⟩, by simp [S.len], fun j s e => ?_, fun a b t1 t2 u1 u2 q ne e1 e2 h => ?_⟩
  · rw [upd_ne (ne_of_none z g2)]
    exact S.g.h a u z
  · rw [upd_ne (ne_of_none z g1)]
    exact S.g.s a u z
  · rcases get_set e with ⟨rfl, rfl, l⟩ | ⟨ne, e⟩
    · exact ⟨_, hp, p, o, rfl, g0, g1, g2, upd_same, r⟩
    · obtain ⟨v, k1, k2⟩ := S.sl j s e
      refine ⟨v, k1, ?_⟩
      cases s with
      | x => trivial
      | u => exact k2
      | d d => exact k2
      | ex a od e => exact k2
      | lk y x => exact k2
      | ow t2 u2 =>
        obtain ⟨q, z, eq, f0, f1, f2, f3, f4⟩ := k2
        have nq : q ≠ p := fun z => S.df i j t t2 u u2 p ne hi e hp (by rw [k1, eq, z])
        exact ⟨q, z, eq, f0, f1, f2, by rw [upd_ne nq]; exact f3, f4⟩
  · rcases get_set e1 with ⟨ra, z1, _⟩ | ⟨n1, e1⟩
    · rcases get_set e2 with ⟨rb, z2, _⟩ | ⟨n2, e2⟩
      · exact absurd (ra.symm.trans rb) ne
      · subst ra
        exact S.df i b t t2 u u2 q ne hi e2 h
    · rcases get_set e2 with ⟨rb, z2, _⟩ | ⟨n2, e2⟩
      · subst rb
        exact S.df a i t1 t u1 u q ne e1 hi h
      · exact S.df a b t1 t2 u1 u2 q ne e1 e2 h
theorem Wo.mut (S : Sm P w K F0 H0 F H σ env) {i : Nat} {t : Option Addr} {u : Ow} {p : Addr} {o : HO} (hi : env[i]? = some (.ow t u)) (hp : σ[i]? = some (some (.ref p))) : Wo σ env F H F (L2.upd H p o) := by
  obtain ⟨q, z, h1, g0, g1, g2, g3, g4⟩ := S.own hi
  rw [hp] at h1
  cases h1
  refine ⟨Ex.refl F, fun a v h n => ?_, fun a v h => ?_, fun _ _ _ h => h, fun a h => ?_⟩
  · have ne : a ≠ p := fun z => n ⟨i, t, u, hi, by rw [hp, z]⟩
    rw [upd_ne ne]
    exact h
  · rw [upd_ne (ne_of_none h g1)]
    exact S.sub a v h
  · by_cases z : a = p
    · subst z
      rw [upd_same] at h
      cases h
    · rw [upd_ne z] at h
      exact h
/-- slot i gets data -/
theorem Sm.setD (S : Sm P w K F0 H0 F H σ env) {i : Nat} {d : Dt} {v : V} (r : Rp K F d v) : Sm P w K F0 H0 F H (σ.set i (some v)) (env.set i (.d d)) :=
  ⟨S.e0, S.g, by simp [S.len], fun j s e => by
    rcases get_set e with ⟨rfl, rfl, l⟩ | ⟨ne, e⟩
    · exact ⟨some v, set_same (by rw [S.len]; exact l), v, rfl, r⟩
    · rw [set_ne ne]
      exact S.sl j s e, fun a b t1 t2 u1 u2 p ne e1 e2 h => by
    rcases get_set e1 with ⟨_, z, _⟩ | ⟨n1, e1⟩
    · cases z
    · rcases get_set e2 with ⟨_, z, _⟩ | ⟨n2, e2⟩
      · cases z
      · rw [set_ne n1] at h
        rw [set_ne n2]
        exact S.df a b t1 t2 u1 u2 p ne e1 e2 h⟩
theorem Sm.setU (S : Sm P w K F0 H0 F H σ env) (i : Nat) : Sm P w K F0 H0 F H (σ.set i none) (env.set i .u) :=
  ⟨S.e0, S.g, by simp [S.len], fun j s e => by
    rcases get_set e with ⟨rfl, rfl, l⟩ | ⟨ne, e⟩
    · exact ⟨none, set_same (by rw [S.len]; exact l), rfl⟩
    · rw [set_ne ne]
      exact S.sl j s e, fun a b t1 t2 u1 u2 p ne e1 e2 h => by
    rcases get_set e1 with ⟨_, z, _⟩ | ⟨n1, e1⟩
    · cases z
    · rcases get_set e2 with ⟨_, z, _⟩ | ⟨n2, e2⟩
      · cases z
      · rw [set_ne n1] at h
        rw [set_ne n2]
        exact S.df a b t1 t2 u1 u2 p ne e1 e2 h⟩
/-- slot i gets a new thing of its own -/
theorem Sm.setO (S : Sm P w K F0 H0 F H σ env) {i : Nat} {u : Ow} {p : Addr} {o : HO} (hF : F p = none) (h0 : H0 p = none) (hp : H p = some o) (r : OwOk P w K F p u o) (hn : ¬ Own σ env p) :
    Sm P w K F0 H0 F H (σ.set i (some (.ref p))) (env.set i (.ow none u)) :=
  ⟨S.e0, S.g, by simp [S.len], fun j s e => by
    rcases get_set e with ⟨rfl, rfl, l⟩ | ⟨ne, e⟩
    · exact ⟨some (.ref p), set_same (by rw [S.len]; exact l), p, o, rfl, (fun _ z => nomatch z), hF, h0, hp, r⟩
    · rw [set_ne ne]
      exact S.sl j s e, fun a b t1 t2 u1 u2 q ne e1 e2 h => by
    rcases get_set e1 with ⟨ra, z1, _⟩ | ⟨n1, e1⟩
    · rcases get_set e2 with ⟨rb, z2, _⟩ | ⟨n2, e2⟩
      · exact absurd (ra.symm.trans rb) ne
      · subst ra
        rw [set_ne n2]
        have l : i < σ.length := by
          rw [S.len]
          exact (by assumption)
        rw [set_same l] at h
        cases h
        exact fun z => hn ⟨b, t2, u2, e2, z⟩
    · rcases get_set e2 with ⟨rb, z2, l⟩ | ⟨n2, e2⟩
      · subst rb
        rw [set_ne n1] at h
        intro q2
        rw [set_same (by rw [S.len]; exact l)] at q2
        cases q2
        exact hn ⟨a, t1, u1, e1, h⟩
      · rw [set_ne n1] at h
        rw [set_ne n2]
        exact S.df a b t1 t2 u1 u2 q ne e1 e2 h⟩
/-- what an own thing is as data -/
def Ow.dt : Ow → Option Dt
  | .lst ds => some (.lst ds)
  | .dic ks ds => some (.dic ks ds)
  | .dit ks ds => some (.dit ks ds)
  | .ins C fs ds => some (.obj C fs ds)
  | .set _ _ => none
theorem OwOk.rp {a : Addr} {u : Ow} {o : HO} {d : Dt} (h : OwOk P w K F a u o) (e : u.dt = some d) (hF : F a = some o) : Rp K F d (.ref a) := by
  cases u <;> cases e
  · obtain ⟨vs, rfl, r⟩ := h
    exact ⟨a, vs, rfl, SqL.of hF, r⟩
  · obtain ⟨vs, rfl, l, r⟩ := h
    exact ⟨a, vs, rfl, hF, l, r⟩
  · obtain ⟨vs, rfl, l, r⟩ := h
    exact ⟨a, vs, rfl, hF, l, r⟩
  · obtain ⟨dx, vs, rfl, l, r⟩ := h
    exact ⟨a, dx, vs, rfl, hF, l, r⟩
/-- the own thing in slot i becomes data -/
theorem Sm.freeze (S : Sm P w K F0 H0 F H σ env) {i : Nat} {t : Option Addr} {u : Ow} {d : Dt} (h : env[i]? = some (.ow t u)) (hd : u.dt = some d) :
    ∃ p o, σ[i]? = some (some (.ref p)) ∧ F p = none ∧ H p = some o ∧ OwOk P w K F p u o ∧ Rp K (L2.upd F p o) d (.ref p) ∧ Sm P w K F0 H0 (L2.upd F p o) H σ (env.set i (.d d)) := by
  obtain ⟨p, o, h1, g0, g1, g2, g3, g4⟩ := S.own h
  have ex : Ex F (L2.upd F p o) := Ex.new g1
  have rp : Rp K (L2.upd F p o) d (.ref p) := (g4.mono ex).rp hd upd_same
  refine ⟨p, o, h1, g1, g3, g4, rp, S.e0, S.g.give S.e0 g2 g3, by simp [S.len], fun j s e => ?_, fun a b t1 t2 u1 u2 q ne e1 e2 h => ?_⟩
  · rcases get_set e with ⟨rfl, rfl, l⟩ | ⟨ne, e⟩
    · exact ⟨_, h1, .ref p, rfl, rp⟩
    · obtain ⟨v, k1, k2⟩ := S.sl j s e
      refine ⟨v, k1, ?_⟩
      cases s with
      | x => trivial
      | u => exact k2
      | d d =>
        obtain ⟨y, e, r⟩ := k2
        exact ⟨y, e, r.mono ex⟩
      | ex a od e => exact ⟨k2.1, k2.2.mono ex⟩
      | lk y x => exact ⟨k2.1, k2.2.mono ex⟩
      | ow t2 u2 =>
        obtain ⟨q, z, eq, f0, f1, f2, f3, f4⟩ := k2
        have nq : q ≠ p := fun z => S.df i j t t2 u u2 p ne h e h1 (by rw [k1, eq, z])
        exact ⟨q, z, eq, f0, by rw [upd_ne nq]; exact f1, f2, f3, f4.mono ex⟩
  · rcases get_set e1 with ⟨_, z, _⟩ | ⟨n1, e1⟩
    · cases z
    · rcases get_set e2 with ⟨_, z, _⟩ | ⟨n2, e2⟩
      · cases z
      · exact S.df a b t1 t2 u1 u2 q ne e1 e2 h
/-- forgetting -/
def Le (a b : En) : Prop := a.length = b.length ∧ ∀ (i : Nat) (s : Sl), b[i]? = some s → s = .x ∨ a[i]? = some s
theorem Le.refl (a : En) : Le a a := ⟨rfl, fun _ _ h => .inr h⟩
theorem Le.nil : Le [] [] := Le.refl _
theorem Le.x {a b : En} {s : Sl} (h : Le a b) : Le (s :: a) (.x :: b) := ⟨by simp [h.1], fun i t e => by
  cases i with
  | zero => exact .inl (by simpa using e.symm)
  | succ i => exact h.2 i t (by simpa using e)⟩
theorem Le.s {a b : En} {s : Sl} (h : Le a b) : Le (s :: a) (s :: b) := ⟨by simp [h.1], fun i t e => by
  cases i with
  | zero => exact .inr (by simpa using e)
  | succ i => exact h.2 i t (by simpa using e)⟩
theorem Sm.le (S : Sm P w K F0 H0 F H σ env) (l : Le env env1) : Sm P w K F0 H0 F H σ env1 :=
  ⟨S.e0, S.g, S.len.trans l.1, fun i s e => by
    rcases l.2 i s e with rfl | z
    · have hi : i < σ.length := by
        rw [S.len, l.1]
        exact (List.getElem?_eq_some_iff.mp e).1
      exact ⟨σ[i], by simp [hi], trivial⟩
    · exact S.sl i s z, fun a b t1 t2 u1 u2 p ne e1 e2 h => by
    rcases l.2 a _ e1 with z | e1
    · cases z
    · rcases l.2 b _ e2 with z | e2
      · cases z
      · exact S.df a b t1 t2 u1 u2 p ne e1 e2 h⟩
end
end Qw
set_option maxHeartbeats 1000000
namespace Qw
open PySem PySem.Spec PyProof.Rows L2 Evl
open Pw (Dt Rp RpL Wk none_sub get_set set_same set_ne R2d R1d RLd RLn Kq KqL truD isEmpty_rp flatD fl py pyL)
section
variable (P : Program) (w : World) (K : PySem.W.Frag)
/-- te gives d, and leaves the slots as env' says -/
def Ee (te : TE) (env : En) (d : Dt) (env' : En) : Prop := Sh env env' ∧ ∀ F0 H0 F H σ, Sm P w K F0 H0 F H σ env → ∀ Q : VK, (∀ v F' H', Wo σ env F H F' H' → Sm P w K F0 H0 F' H' σ env' → Rp K F' d v → Q v H') → te σ H Q
def Te (tt : TT) (env : En) (b : Bool) (env' : En) : Prop := Sh env env' ∧ ∀ F0 H0 F H σ, Sm P w K F0 H0 F H σ env → ∀ Q : Bool → Hp → Prop, (∀ F' H', Wo σ env F H F' H' → Sm P w K F0 H0 F' H' σ env' → Q b H') → tt σ H Q
def EeA (ta : TA) (env : En) (ds : List Dt) (env' : En) : Prop := Sh env env' ∧ ∀ F0 H0 F H σ, Sm P w K F0 H0 F H σ env → ∀ Q : List V → Hp → Prop, (∀ vs F' H', Wo σ env F H F' H' → Sm P w K F0 H0 F' H' σ env' → RpL K F' ds vs → Q vs H') → ta σ H Q
/-- a new thing of one's own -/
def EnO (te : TE) (env : En) (u : Ow) (env' : En) : Prop := Sh env env' ∧ ∀ F0 H0 F H σ, Sm P w K F0 H0 F H σ env → ∀ Q : VK, (∀ p o F' H', Wo σ env F H F' H' → Sm P w K F0 H0 F' H' σ env' → H p = none → F' p = none → H' p = some o → OwOk P w K F' p u o → Q (.ref p) H') → te σ H Q
abbrev EnL (te : TE) (env : En) (ds : List Dt) (env' : En) : Prop := EnO P w K te env (.lst ds) env'
end
section
variable {P : Program} {w : World} {K : PySem.W.Frag} {env env1 env2 env3 env4 : En} {ta tb te tc : TE} {t u : TT} {d e z : Dt} {r r' : R2}
theorem Ee.nw (h : ∀ F0 H0 F H σ, Sm P w K F0 H0 F H σ env → ∀ Q : VK, Kq K F H d Q → te σ H Q) : Ee P w K te env d env := ⟨Sh.refl, fun F0 H0 F H σ S Q q => h F0 H0 F H σ S Q fun v F' H' k r => q v F' H' (.of k) (S.wk k) r⟩
theorem te_is {b c : Bool} (h : Te P w K t env b env1) (e' : b = c) : Te P w K t env c env1 := e' ▸ h
/-- a new thing as data -/
theorem Sm.give {F0 H0 F H : Hp} {σ : L2.St} (S : Sm P w K F0 H0 F H σ env) {p : Addr} {o : HO} (n1 : F p = none) (n2 : H0 p = none) (h : H p = some o) (no : ¬ Own σ env p) : Sm P w K F0 H0 (L2.upd F p o) H σ env :=
  ⟨S.e0, S.g.give S.e0 n2 h, S.len, fun i s e => by
    obtain ⟨v, k1, k2⟩ := S.sl i s e
    refine ⟨v, k1, ?_⟩
    cases s with
    | x => trivial
    | u => exact k2
    | d d =>
      obtain ⟨y, e, r⟩ := k2
      exact ⟨y, e, r.mono (Ex.new n1)⟩
    | ex a od e => exact ⟨k2.1, k2.2.mono (Ex.new n1)⟩
    | lk y x => exact ⟨k2.1, k2.2.mono (Ex.new n1)⟩
    | ow t2 u2 =>
      obtain ⟨q, z, eq, f0, f1, f2, f3, f4⟩ := k2
      have nq : q ≠ p := fun z => no ⟨i, t2, u2, e, by rw [k1, eq, z]⟩
      exact ⟨q, z, eq, f0, by rw [upd_ne nq]; exact f1, f2, f3, f4.mono (Ex.new n1)⟩, S.df⟩
theorem Wo.give {F H F' H' : Hp} {σ : L2.St} (k : Wo σ env F H F' H') {p : Addr} {o : HO} (n0 : H p = none) (n1 : F' p = none) (h : H' p = some o) : Wo σ env F H (L2.upd F' p o) H' :=
  ⟨fun a v e => by
    rw [upd_ne (ne_of_none (k.f a v e) n1)]
    exact k.f a v e, k.h, fun a v e => by
    by_cases z : a = p
    · subst z
      rw [upd_same] at e
      rw [h, ← e]
    · rw [upd_ne z] at e
      exact k.s a v e, fun a v e n => by
    rw [upd_ne (ne_of_none e n0)]
    exact k.n a v e n, k.b⟩
end
end Qw
set_option maxHeartbeats 1000000
namespace Qw
open PySem PySem.Spec PyProof.Rows L2 Evl
open Pw (Dt Rp RpL Wk none_sub get_set set_same set_ne R2d R1d RLd RLn Kq KqL truD isEmpty_rp flatD fl py pyL)
section
variable (P : Program) (w : World) (K : PySem.W.Frag)
def Ep (te : TE) (env : En) (d : Dt) : Prop := ∀ F0 H0 F H σ, Sm P w K F0 H0 F H σ env → ∀ Q : VK, Kq K F H d Q → te σ H Q
def Tp (tt : TT) (env : En) (b : Bool) : Prop := ∀ F0 H0 F H σ, Sm P w K F0 H0 F H σ env → ∀ Q : Bool → Hp → Prop, (∀ F' H', Wk F H F' H' → Q b H') → tt σ H Q
def EpA (ta : TA) (env : En) (ds : List Dt) : Prop := ∀ F0 H0 F H σ, Sm P w K F0 H0 F H σ env → ∀ Q : List V → Hp → Prop, KqL K F H ds Q → ta σ H Q
def EpO (te : TE) (env : En) (u : Ow) : Prop := ∀ F0 H0 F H σ, Sm P w K F0 H0 F H σ env → ∀ Q : VK, (∀ p o F' H', Wk F H F' H' → H p = none → F' p = none → H' p = some o → OwOk P w K F' p u o → Q (.ref p) H') → te σ H Q
def EpN (te : TE) (env : En) (ds : List Dt) : Prop := ∀ F0 H0 F H σ, Sm P w K F0 H0 F H σ env → ∀ Q : VK, (∀ p vs F' H', Wk F H F' H' → H p = none → F' p = none → H' p = some (.lst vs) → RpL K F' ds vs → Q (.ref p) H') → te σ H Q
def Op (to : TO) (env : En) (o : Option Int) : Prop := ∀ F0 H0 F H σ, Sm P w K F0 H0 F H σ env → ∀ Q : Option Int → Hp → Prop, (∀ F' H', Wk F H F' H' → Q o H') → to σ H Q
end
section
variable {P : Program} {w : World} {K : PySem.W.Frag} {env env1 env2 : En} {ta tb te tc : TE} {tl th : TO} {t u : TT} {d e z : Dt} {r r' : R2}
theorem ep_var {i : Nat} (h : env[i]? = some (.d d) := by rfl) : Ep P w K (tVar i) env d := fun F0 H0 F H σ S Q q => by
  obtain ⟨v, h1, w, rfl, r⟩ := S.sl i _ h
  exact ⟨w, h1, q w F H (Wk.refl S.sub) r⟩
theorem ep_c {v : V} (h : ∀ F, Rp K F d v) : Ep P w K (tC v) env d := fun F0 H0 F H σ S Q q => q v F H (Wk.refl S.sub) (h F)
theorem ep_int {i : Int} : Ep P w K (tC (.int i)) env (.int i) := ep_c fun _ => rfl
theorem ep_bl {b : Bool} : Ep P w K (tC (.bl b)) env (.bl b) := ep_c fun _ => rfl
theorem ep_str {x : Str} : Ep P w K (tC (.str x)) env (.str x) := ep_c fun _ => rfl
theorem ep_non : Ep P w K (tC .non) env .non := ep_c fun _ => rfl
theorem ep_ty {n : String} : Ep P w K (tC (.ty n)) env (.ty n) := ep_c fun _ => rfl
theorem ep_is (h : Ep P w K te env d) (e' : d = e) : Ep P w K te env e := by
  rw [← e']
  exact h
theorem tp_is {b c : Bool} (h : Tp P w K t env b) (e' : b = c) : Tp P w K t env c := by
  rw [← e']
  exact h
theorem ep_op (ha : Ep P w K ta env d) (hb : Ep P w K tb env e) (hr : R2d K r d e z) : Ep P w K (tOp r ta tb) env z := fun F0 H0 F H σ S Q q =>
  ha F0 H0 F H σ S _ fun x F1 H1 w1 r1 => hb F0 H0 F1 H1 σ (S.wk w1) _ fun y F2 H2 w2 r2 => hr F2 H2 x y w2.s (r1.mono w2.f) r2 Q fun v F3 H3 w3 r3 => q v F3 H3 ((w1.trans w2).trans w3) r3
theorem ep_un {r : V → Hp → VK → Prop} (ha : Ep P w K ta env d) (hr : R1d K r d z) : Ep P w K (tUn r ta) env z := fun F0 H0 F H σ S Q q =>
  ha F0 H0 F H σ S _ fun x F1 H1 w1 r1 => hr F1 H1 x w1.s r1 Q fun v F3 H3 w3 r3 => q v F3 H3 (w1.trans w3) r3
theorem ap_nil : EpA P w K tNil env [] := fun F0 H0 F H σ S Q q => q [] F H (Wk.refl S.sub) rfl
theorem ap_cons {tr : TA} {ds : List Dt} (h : Ep P w K te env d) (hr : EpA P w K tr env ds) : EpA P w K (tCons te tr) env (d :: ds) := fun F0 H0 F H σ S Q q =>
  h F0 H0 F H σ S _ fun x F1 H1 w1 r1 => hr F0 H0 F1 H1 σ (S.wk w1) _ fun vs F2 H2 w2 r2 => q (x :: vs) F2 H2 (w1.trans w2) ⟨x, vs, rfl, r1.mono w2.f, r2⟩
theorem ep_cb {r : List V → Hp → VK → Prop} {ta : TA} {ds : List Dt} (h : EpA P w K ta env ds) (hr : RLd K r ds z) : Ep P w K (tCB r ta) env z := fun F0 H0 F H σ S Q q =>
  h F0 H0 F H σ S _ fun vs F1 H1 w1 r1 => hr F1 H1 vs w1.s r1 Q fun v F3 H3 w3 r3 => q v F3 H3 (w1.trans w3) r3
theorem np_cb {r : List V → Hp → VK → Prop} {ta : TA} {ds es : List Dt} (h : EpA P w K ta env ds) (hr : RLn K r ds es) : EpN P w K (tCB r ta) env es := fun F0 H0 F H σ S Q q =>
  h F0 H0 F H σ S _ fun vs F1 H1 w1 r1 => hr F1 H1 vs w1.s r1 Q fun p us F3 H3 w3 n1 n2 h3 r3 => q p us F3 H3 (w1.trans w3) (fresh_back w1.h n1) n2 h3 r3
/-- a new list as data -/
theorem ep_new {ds : List Dt} (h : EpN P w K te env ds) : Ep P w K te env (.lst ds) := fun F0 H0 F H σ S Q q =>
  h F0 H0 F H σ S Q fun p vs F1 H1 w1 n1 n2 h1 r1 => q (.ref p) (L2.upd F1 p (.lst vs)) H1 (w1.give S.sub n1 h1) ⟨p, vs, rfl, SqL.of upd_same, r1.mono (Ex.new n2)⟩
theorem ep_tup {ta : TA} {ds : List Dt} (h : EpA P w K ta env ds) (hl : ds.length ≤ 100000 := by exact Nat.le_of_ble_eq_true rfl) : Ep P w K (tTup ta) env (.tup ds) := fun F0 H0 F H σ S Q q =>
  h F0 H0 F H σ S _ fun vs F1 H1 w1 r1 => ⟨sz_of (by rw [← r1.length]; exact hl), fun p hp => q (.ref p) (L2.upd F1 p (.tup vs)) (L2.upd H1 p (.tup vs)) (w1.trans (Wk.new w1.s _ hp)) ⟨p, vs, rfl, SqT.of upd_same, r1.mono (Ex.new (none_sub w1.s hp))⟩⟩
theorem np_lst {ta : TA} {ds : List Dt} (h : EpA P w K ta env ds) (hl : ds.length ≤ 100000 := by exact Nat.le_of_ble_eq_true rfl) : EpN P w K (tLst ta) env ds := fun F0 H0 F H σ S Q q =>
  h F0 H0 F H σ S _ fun vs F1 H1 w1 r1 => ⟨sz_of (by rw [← r1.length]; exact hl), fun p hp => q p vs F1 (L2.upd H1 p (.lst vs)) (w1.trans (Wk.own w1.s _ hp)) (fresh_back w1.h hp) (none_sub w1.s hp) upd_same r1⟩
theorem ep_lst {ta : TA} {ds : List Dt} (h : EpA P w K ta env ds) (hl : ds.length ≤ 100000 := by exact Nat.le_of_ble_eq_true rfl) : Ep P w K (tLst ta) env (.lst ds) := ep_new (np_lst h hl)
theorem ep_chain {a b : Bool} {f : Dt} (ha : Ep P w K ta env d) (hb : Ep P w K tb env e) (hr : R2d K r d e (.bl a)) (hc : a = true → Ep P w K tc env f) (hr' : a = true → R2d K r' e f (.bl b)) : Ep P w K (tChain r r' ta tb tc) env (.bl (a && b)) := fun F0 H0 F H σ S Q q =>
  ha F0 H0 F H σ S _ fun x F1 H1 w1 r1 => hb F0 H0 F1 H1 σ (S.wk w1) _ fun y F2 H2 w2 r2 => hr F2 H2 x y w2.s (r1.mono w2.f) r2 _ fun v F3 H3 w3 r3 => by
    refine ⟨a, r3, ?_⟩
    cases a with
    | true =>
      show tc σ H3 _
      exact hc rfl F0 H0 F3 H3 σ (((S.wk w1).wk w2).wk w3) _ fun c F4 H4 w4 r4 => hr' rfl F4 H4 y c w4.s (r2.mono (w3.f.trans w4.f)) r4 Q fun v F5 H5 w5 r5 => q v F5 H5 (((((w1.trans w2).trans w3)).trans w4).trans w5) r5
    | false =>
      show Q (.bl false) H3
      exact q _ F3 H3 ((w1.trans w2).trans w3) rfl
theorem tp_test {b : Bool} (h : Ep P w K te env (.bl b)) : Tp P w K (tTest te) env b := fun F0 H0 F H σ S Q q => h F0 H0 F H σ S _ fun v F1 H1 w1 r1 => ⟨b, r1, q F1 H1 w1⟩
theorem tp_B {b : Bool} (h : Ep P w K te env (.bl b)) : Tp P w K (tB te) env b := fun F0 H0 F H σ S Q q => h F0 H0 F H σ S _ fun v F1 H1 w1 r1 => ⟨b, r1, q F1 H1 w1⟩
theorem tp_and {a b : Bool} (h1 : Tp P w K t env a) (h2 : a = true → Tp P w K u env b) : Tp P w K (tAnd t u) env (a && b) := fun F0 H0 F H σ S Q q => h1 F0 H0 F H σ S _ fun F1 H1 w1 => by
  cases a with
  | true =>
    show u σ H1 Q
    exact h2 rfl F0 H0 F1 H1 σ (S.wk w1) Q fun F2 H2 w2 => q F2 H2 (w1.trans w2)
  | false =>
    show Q false H1
    exact q F1 H1 w1
theorem tp_or {a b : Bool} (h1 : Tp P w K t env a) (h2 : a = false → Tp P w K u env b) : Tp P w K (tOr t u) env (a || b) := fun F0 H0 F H σ S Q q => h1 F0 H0 F H σ S _ fun F1 H1 w1 => by
  cases a with
  | false =>
    show u σ H1 Q
    exact h2 rfl F0 H0 F1 H1 σ (S.wk w1) Q fun F2 H2 w2 => q F2 H2 (w1.trans w2)
  | true =>
    show Q true H1
    exact q F1 H1 w1
theorem tp_not {a : Bool} (h : Tp P w K t env a) : Tp P w K (tNot t) env (!a) := fun F0 H0 F H σ S Q q => h F0 H0 F H σ S _ fun F1 H1 w1 => q F1 H1 w1
theorem ep_and {a b : Bool} (h1 : Ep P w K ta env (.bl a)) (h2 : a = true → Ep P w K tb env (.bl b)) : Ep P w K (tAndV ta tb) env (.bl (a && b)) := fun F0 H0 F H σ S Q q => h1 F0 H0 F H σ S _ fun v F1 H1 w1 r1 => ⟨a, r1, by
  cases a with
  | true =>
    show tb σ H1 Q
    exact h2 rfl F0 H0 F1 H1 σ (S.wk w1) Q fun v F2 H2 w2 r2 => q v F2 H2 (w1.trans w2) r2
  | false =>
    show Q (.bl false) H1
    exact q _ F1 H1 w1 rfl⟩
theorem ep_if {b : Bool} (h : Tp P w K t env b) (h1 : b = true → Ep P w K ta env d) (h2 : b = false → Ep P w K tb env d) : Ep P w K (tIf t ta tb) env d := fun F0 H0 F H σ S Q q => h F0 H0 F H σ S _ fun F1 H1 w1 => by
  cases b with
  | true =>
    show ta σ H1 Q
    exact h1 rfl F0 H0 F1 H1 σ (S.wk w1) Q fun v F2 H2 w2 r2 => q v F2 H2 (w1.trans w2) r2
  | false =>
    show tb σ H1 Q
    exact h2 rfl F0 H0 F1 H1 σ (S.wk w1) Q fun v F2 H2 w2 r2 => q v F2 H2 (w1.trans w2) r2
theorem tp_tru {b : Bool} (h : Ep P w K te env d) (hb : truD d = some b) : Tp P w K (fun σ H Q => te σ H fun x H' => ∃ k, TruV K x H' k ∧ Q k H') env b := fun F0 H0 F H σ S Q q => h F0 H0 F H σ S _ fun v F1 H1 w1 r1 => by
  refine ⟨b, ?_, q F1 H1 w1⟩
  cases d <;> simp only [truD, Option.some.injEq, reduceCtorEq] at hb
  · cases r1; exact hb.symm
  · cases r1; exact hb.symm
  · cases r1; exact hb.symm
  · obtain ⟨a, vs, rfl, h1, h2⟩ := r1
    exact .inr (.inl ⟨vs, ex_t w1.s h1, by rw [← hb, isEmpty_rp h2]⟩)
  · obtain ⟨a, vs, rfl, h1, h2⟩ := r1
    exact .inl ⟨vs, ex_l w1.s h1, by rw [← hb, isEmpty_rp h2]⟩
theorem qo_none : Op P w K tNoPart env none := fun F0 H0 F H σ S Q q => q F H (Wk.refl S.sub)
theorem qo_some {i : Int} (h : Ep P w K te env (.int i)) : Op P w K (tPart te) env (some i) := fun F0 H0 F H σ S Q q => h F0 H0 F H σ S _ fun v F1 H1 w1 r => ⟨i, r, q F1 H1 w1⟩
theorem np_slL {xs : List Dt} {lo hi : Option Int} (h : Ep P w K te env (.lst xs)) (h1 : Op P w K tl env lo) (h2 : Op P w K th env hi) : EpN P w K (tSl (rSlL K) te tl th) env ((xs.drop (HT.sIx xs.length 0 lo)).take (HT.sIx xs.length xs.length hi - HT.sIx xs.length 0 lo)) := fun F0 H0 F H σ S Q q =>
  h F0 H0 F H σ S _ fun v F1 H1 w r => h1 F0 H0 F1 H1 σ (S.wk w) _ fun F2 H2 w2 => h2 F0 H0 F2 H2 σ ((S.wk w).wk w2) _ fun F3 H3 w3 => by
    obtain ⟨a, vs, rfl, g1, g2⟩ := r
    refine ⟨a, vs, rfl, ex_l (w.s.trans (w2.h.trans w3.h)) g1, fun p hp => q p _ F3 _ (((w.trans w2).trans w3).trans (Wk.own w3.s _ hp)) (fresh_back ((w.trans w2).trans w3).h hp) (none_sub w3.s hp) upd_same ?_⟩
    unfold cutV
    rw [← g2.length]
    exact RpL.take _ (RpL.drop _ (g2.mono (w2.f.trans w3.f)))
theorem ap_starL {tr : TA} {ds es : List Dt} (h : Ep P w K te env (.lst ds)) (hr : EpA P w K tr env es) : EpA P w K (StX.tStar K te tr) env (ds ++ es) := fun F0 H0 F H σ S Q q =>
  h F0 H0 F H σ S _ fun x F1 H1 w1 ⟨a, vs, e, s, r1⟩ => ⟨a, vs, e, .inr (ex_l w1.s s), hr F0 H0 F1 H1 σ (S.wk w1) _ fun us F2 H2 w2 r2 => q (vs ++ us) F2 H2 (w1.trans w2) (RpL.append (r1.mono w2.f) r2)⟩
theorem ap_starT {tr : TA} {ds es : List Dt} (h : Ep P w K te env (.tup ds)) (hr : EpA P w K tr env es) : EpA P w K (StX.tStar K te tr) env (ds ++ es) := fun F0 H0 F H σ S Q q =>
  h F0 H0 F H σ S _ fun x F1 H1 w1 ⟨a, vs, e, s, r1⟩ => ⟨a, vs, e, .inl (ex_t w1.s s), hr F0 H0 F1 H1 σ (S.wk w1) _ fun us F2 H2 w2 r2 => q (vs ++ us) F2 H2 (w1.trans w2) (RpL.append (r1.mono w2.f) r2)⟩
theorem ee_p (h : Ep P w K te env d) : Ee P w K te env d env := .nw h
theorem te_p {b : Bool} (h : Tp P w K t env b) : Te P w K t env b env := ⟨Sh.refl, fun F0 H0 F H σ S Q q => h F0 H0 F H σ S Q fun F' H' k => q F' H' (.of k) (S.wk k)⟩
theorem eo_p {o : Ow} (h : EpO P w K te env o) : EnO P w K te env o env := ⟨Sh.refl, fun F0 H0 F H σ S Q q => h F0 H0 F H σ S Q fun p o F' H' k n1 n2 h1 r => q p o F' H' (.of k) (S.wk k) n1 n2 h1 r⟩
theorem po_n {ds : List Dt} (h : EpN P w K te env ds) : EpO P w K te env (.lst ds) := fun F0 H0 F H σ S Q q => h F0 H0 F H σ S Q fun p vs F' H' k n1 n2 h1 r => q p _ F' H' k n1 n2 h1 ⟨vs, rfl, r⟩
theorem en_p {ds : List Dt} (h : EpN P w K te env ds) : EnL P w K te env ds env := eo_p (po_n h)
theorem po_dt {o : Ow} (h : EpO P w K te env o) (hd : o.dt = some d := by rfl) : Ep P w K te env d := fun F0 H0 F H σ S Q q =>
  h F0 H0 F H σ S Q fun p ho F1 H1 k n1 n2 h1 r1 => q (.ref p) (L2.upd F1 p ho) H1 (k.give S.sub n1 h1) ((r1.mono (Ex.new n2)).rp hd upd_same)
end
end Qw
set_option maxHeartbeats 1000000
namespace Qw
open PySem PySem.Spec PyProof.Rows L2 Evl
open Pw (Dt Rp RpL Wk none_sub get_set set_same set_ne R2d R1d RLd RLn Kq KqL truD isEmpty_rp flatD fl py pyL rangeD rangeD_len charsD wl_at Wl wl_range)
/-- what a def gives: data, a new thing, an exception -/
inductive Rs where
  | d (d : Dt) | o (u : Ow) | x (x : Xn)
def RsK (P : Program) (w : World) (K : PySem.W.Frag) (F H : Hp) (Q : VK) (E : XK) : Rs → Prop
  | .d d => Kq K F H d Q
  | .o u => ∀ p o F' H', Wk F H F' H' → H p = none → F' p = none → H' p = some o → OwOk P w K F' p u o → Q (.ref p) H'
  | .x x => ∀ od F' H', Wk F H F' H' → XnOk K F' x od → E (.ref x.C) od H'
def spR (P : Program) (w : World) (K : PySem.W.Frag) (R : List Dt → Rs → Prop) : Sp := fun vs H Q E => ∃ F ds r, Ex F H ∧ RpL K F ds vs ∧ R ds r ∧ RsK P w K F H Q E r
inductive Out where
  | nx (e : En) | ct (e : En) | nc (e : En) | bk (e : En) | rt (d : Dt) | rte (d : Dt) (e : En) | ro (u : Ow) | rz (W : WX) (x : Xn) (e : En)
section
variable (P : Program) (w : World) (K : PySem.W.Frag)
def Po (F0 H0 F : Hp) (D : Ends) : Out → Prop
  | .nx e => ∀ F' H' σ', Ex F F' → Sm P w K F0 H0 F' H' σ' e → D.nx σ' H'
  | .ct e => ∀ F' H' σ', Ex F F' → Sm P w K F0 H0 F' H' σ' e → D.ct σ' H'
  | .nc e => ∀ F' H' σ', Ex F F' → Sm P w K F0 H0 F' H' σ' e → D.nx σ' H' ∧ D.ct σ' H'
  | .bk e => ∀ F' H' σ', Ex F F' → Sm P w K F0 H0 F' H' σ' e → D.bk σ' H'
  | .rt d => ∀ v F' H', Wk F0 H0 F' H' → Rp K F' d v → D.rt v H'
  | .rte d e => ∀ v F' H' σ', Ex F F' → Sm P w K F0 H0 F' H' σ' e → Rp K F' d v → D.rt v H'
  | .ro u => ∀ p o F' H', Wk F0 H0 F' H' → H0 p = none → F' p = none → H' p = some o → OwOk P w K F' p u o → D.rt (.ref p) H'
  | .rz W x e => ∀ od F' H' σ', Ex F F' → Sm P w K F0 H0 F' H' σ' e → XnOk K F' x od → W (.ref x.C) od σ' H'
def Se (t : TS) (env : En) (o : Out) : Prop := ∀ F0 H0 F H σ D, Sm P w K F0 H0 F H σ env → Po P w K F0 H0 F D o → t D σ H
def Ge (g : TG) (d : Dt) (env env' : En) : Prop := ∀ F0 H0 F H σ v, Sm P w K F0 H0 F H σ env → Rp K F d v → ∀ Q : L2.St → Hp → Prop, (∀ F' H' σ', Ex F F' → Sm P w K F0 H0 F' H' σ' env' → Q σ' H') → g v σ H Q
/-- an expression that raises -/
def Er (W : WX) (te : TE) (env : En) (x : Xn) (env' : En) : Prop := ∀ F0 H0 F H σ, Sm P w K F0 H0 F H σ env → ∀ Q : VK, (∀ od F' H', Ex F F' → Sm P w K F0 H0 F' H' σ env' → XnOk K F' x od → W (.ref x.C) od σ H') → te σ H Q
def Ie (wi : TI) (env : En) (ds : List Dt) (env' : En) : Prop := ∀ F0 H0 F H σ, Sm P w K F0 H0 F H σ env → ∀ R : It → Hp → Prop, (∀ J F' H', Ex F F' → Sm P w K F0 H0 F' H' σ env' → Wl K F' J ds → R J H') → wi σ H R
/-- .. that changes nothing -/
def Ip (wi : TI) (env : En) (ds : List Dt) : Prop := ∀ F0 H0 F H σ, Sm P w K F0 H0 F H σ env → ∀ R : It → Hp → Prop, (∀ J F' H', Wk F H F' H' → Wl K F' J ds → R J H') → wi σ H R
end
section
variable {P : Program} {w : World} {K : PySem.W.Frag} {env env1 env2 env3 : En} {ta tb te tc : TE} {t u : TT} {d e z : Dt} {s s1 s2 : TS} {o : Out} {g : TG} {tA : TA} {R : List Dt → Rs → Prop} {ds : List Dt}
theorem ep_call {E : XK} (h : EpA P w K tA env ds) (hf : R ds (.d d)) : Ep P w K (tCall (spR P w K R) [] E tA) env d := fun F0 H0 F H σ S Q q =>
  h F0 H0 F H σ S _ fun vs F1 H1 w1 r1 => ⟨F1, ds, .d d, w1.s, by rw [List.append_nil]; exact r1, hf, fun v F2 H2 w2 r2 => q v F2 H2 (w1.trans w2) r2⟩
theorem ep_callS {E : L2.St → XK} (h : EpA P w K tA env ds) (hf : R ds (.d d)) : Ep P w K (tCallS (spR P w K R) E tA) env d := fun F0 H0 F H σ S Q q =>
  h F0 H0 F H σ S _ fun vs F1 H1 w1 r1 => ⟨F1, ds, .d d, w1.s, r1, hf, fun v F2 H2 w2 r2 => q v F2 H2 (w1.trans w2) r2⟩
theorem po_callS {E : L2.St → XK} {u : Ow} (h : EpA P w K tA env ds) (hf : R ds (.o u)) : EpO P w K (tCallS (spR P w K R) E tA) env u := fun F0 H0 F H σ S Q q =>
  h F0 H0 F H σ S _ fun vs F1 H1 w1 r1 => ⟨F1, ds, .o u, w1.s, r1, hf, fun p o F2 H2 w2 n1 n2 h1 r2 => q p o F2 H2 (w1.trans w2) (none_sub w1.h n1) n2 h1 r2⟩
theorem er_callS {W : WX} {x : Xn} (h : EpA P w K tA env ds) (hf : R ds (.x x)) : Er P w K W (tCallS (spR P w K R) (WE W) tA) env x env := fun F0 H0 F H σ S Q q =>
  h F0 H0 F H σ S _ fun vs F1 H1 w1 r1 => ⟨F1, ds, .x x, w1.s, r1, hf, fun od F2 H2 w2 r2 => q od F2 H2 (w1.f.trans w2.f) (S.wk (w1.trans w2)) r2⟩
theorem spR_len {n : Nat} (hf : ∀ ds r, R ds r → ds.length = n) (vs : List V) (H : Hp) (Q : VK) (E : XK) (h : spR P w K R vs H Q E) : vs.length = n := by
  obtain ⟨F, ds, d, _, r, e, _⟩ := h
  rw [← r.length]
  exact hf ds d e
theorem Po.ex {F0 H0 F F' : Hp} {D : Ends} (e : Ex F F') (p : Po P w K F0 H0 F D o) : Po P w K F0 H0 F' D o := by
  cases o with
  | nx e1 => exact fun F2 H2 σ2 e2 S => p F2 H2 σ2 (e.trans e2) S
  | ct e1 => exact fun F2 H2 σ2 e2 S => p F2 H2 σ2 (e.trans e2) S
  | nc e1 => exact fun F2 H2 σ2 e2 S => p F2 H2 σ2 (e.trans e2) S
  | bk e1 => exact fun F2 H2 σ2 e2 S => p F2 H2 σ2 (e.trans e2) S
  | rt d => exact p
  | rte d e1 => exact fun v F2 H2 σ2 e2 S => p v F2 H2 σ2 (e.trans e2) S
  | ro u => exact p
  | rz W x e1 => exact fun od F2 H2 σ2 e2 S => p od F2 H2 σ2 (e.trans e2) S
theorem ge_name {i : Nat} : Ge P w K (gName i) d env (env.set i (.d d)) := fun F0 H0 F H σ v S r Q q => q F H _ (Ex.refl F) (S.setD r)
theorem se_asgG (h : Ee P w K te env d env1) (hg : Ge P w K g d env1 env2) : Se P w K (tAsg te g) env (.nx env2) := fun F0 H0 F H σ D S p =>
  h.2 F0 H0 F H σ S _ fun v F1 H1 k S1 r => hg F0 H0 F1 H1 σ v S1 r _ fun F2 H2 σ' e S' => p F2 H2 σ' (k.f.trans e) S'
theorem se_asg {i : Nat} (h : Ee P w K te env d env1) : Se P w K (tAsg te (gName i)) env (.nx (env1.set i (.d d))) := se_asgG h ge_name
/-- x = a new thing that will be changed -/
theorem se_own {i : Nat} {v : Ow} (h : EnO P w K te env v env1) : Se P w K (tAsg te (gName i)) env (.nx (env1.set i (.ow none v))) := fun F0 H0 F H σ D S p =>
  h.2 F0 H0 F H σ S _ fun a ho F1 H1 k S1 n1 n2 h1 r => p F1 H1 _ k.f (S1.setO n2 (none_sub S.g.h n1) h1 r fun z => S.ownNew n1 (h.1.own z))
theorem se_ret (h : Ee P w K te env d env1) : Se P w K (tRet te) env (.rt d) := fun F0 H0 F H σ D S p => h.2 F0 H0 F H σ S _ fun v F1 H1 k S1 r => p v F1 H1 S1.g r
theorem se_ro {v : Ow} (h : EnO P w K te env v env1) : Se P w K (tRet te) env (.ro v) := fun F0 H0 F H σ D S p => h.2 F0 H0 F H σ S _ fun a ho F1 H1 k S1 n1 n2 h1 r => p a ho F1 H1 S1.g (none_sub S.g.h n1) n2 h1 r
/-- return x, x one's own -/
theorem se_roV {i : Nat} {t' : Option Addr} {v : Ow} (h : env[i]? = some (.ow t' v)) : Se P w K (tRet (tVar i)) env (.ro v) := fun F0 H0 F H σ D S p => by
  obtain ⟨a, ho, e1, _, g1, g2, g3, g4⟩ := S.own h
  exact ⟨_, e1, p a ho F H S.g g2 g1 g3 g4⟩
theorem se_next : Se P w K tNext env (.nx env) := fun F0 H0 F H σ D S p => p F H σ (Ex.refl F) S
theorem se_drop (h : Ee P w K te env d env1) : Se P w K (tDrop te) env (.nx env1) := fun F0 H0 F H σ D S p => h.2 F0 H0 F H σ S _ fun v F1 H1 k S1 r => p F1 H1 σ k.f S1
theorem se_dropX {W : WX} {x : Xn} (h : Er P w K W te env x env1) : Se P w K (tDrop te) env (.rz W x env1) := fun F0 H0 F H σ D S p => h F0 H0 F H σ S _ fun od F1 H1 k S1 r => p od F1 H1 σ k S1 r
theorem se_asgX {W : WX} {x : Xn} (h : Er P w K W te env x env1) : Se P w K (tAsg te g) env (.rz W x env1) := fun F0 H0 F H σ D S p => h F0 H0 F H σ S _ fun od F1 H1 k S1 r => p od F1 H1 σ k S1 r
theorem se_retX {W : WX} {x : Xn} (h : Er P w K W te env x env1) : Se P w K (tRet te) env (.rz W x env1) := fun F0 H0 F H σ D S p => h F0 H0 F H σ S _ fun od F1 H1 k S1 r => p od F1 H1 σ k S1 r
theorem se_seq (h1 : Se P w K s1 env (.nx env1)) (h2 : Se P w K s2 env1 o) : Se P w K (tSeq s1 s2) env o := fun F0 H0 F H σ D S p =>
  h1 F0 H0 F H σ _ S fun F1 H1 σ1 e1 S1 => h2 F0 H0 F1 H1 σ1 D S1 (p.ex e1)
/-- an end that no later statement sees -/
def Out.fin : Out → Bool
  | .nx _ => false
  | .nc _ => false
  | _ => true
theorem se_seqF (h1 : Se P w K s1 env o) (f : o.fin = true := by rfl) : Se P w K (tSeq s1 s2) env o := fun F0 H0 F H σ D S p => by
  refine h1 F0 H0 F H σ _ S ?_
  cases o <;> first | exact p | cases f
theorem se_nc (h : Se P w K s env (.nx env1)) : Se P w K s env (.nc env1) := fun F0 H0 F H σ D S p => h F0 H0 F H σ D S fun F1 H1 σ1 e1 S1 => (p F1 H1 σ1 e1 S1).1
theorem se_cc (h : Se P w K s env (.ct env1)) : Se P w K s env (.nc env1) := fun F0 H0 F H σ D S p => h F0 H0 F H σ D S fun F1 H1 σ1 e1 S1 => (p F1 H1 σ1 e1 S1).2
theorem se_if {b : Bool} (h : Te P w K t env b env1) (h1 : b = true → Se P w K s1 env1 o) (h2 : b = false → Se P w K s2 env1 o) : Se P w K (tIfS t s1 s2) env o := fun F0 H0 F H σ D S p => h.2 F0 H0 F H σ S _ fun F1 H1 k S1 => by
  cases b with
  | true =>
    show s1 D σ H1
    exact h1 rfl F0 H0 F1 H1 σ D S1 (p.ex k.f)
  | false =>
    show s2 D σ H1
    exact h2 rfl F0 H0 F1 H1 σ D S1 (p.ex k.f)
/-- if t: s1 (no else), then s2 -/
theorem se_when {b : Bool} (h : Te P w K t env b env1) (h1 : b = true → Se P w K (tSeq s1 s2) env1 o) (h2 : b = false → Se P w K s2 env1 o) : Se P w K (tSeq (tIfS t s1 tNext) s2) env o := fun F0 H0 F H σ D S p => h.2 F0 H0 F H σ S _ fun F1 H1 k S1 => by
  cases b with
  | true =>
    show s1 { D with nx := s2 D } σ H1
    exact h1 rfl F0 H0 F1 H1 σ D S1 (p.ex k.f)
  | false =>
    show s2 D σ H1
    exact h2 rfl F0 H0 F1 H1 σ D S1 (p.ex k.f)
/-- if t: s1 else: s2, then s -/
theorem se_ifq {b : Bool} (h : Te P w K t env b env1) (h1 : b = true → Se P w K (tSeq s1 s) env1 o) (h2 : b = false → Se P w K (tSeq s2 s) env1 o) : Se P w K (tSeq (tIfS t s1 s2) s) env o := fun F0 H0 F H σ D S p => h.2 F0 H0 F H σ S _ fun F1 H1 k S1 => by
  cases b with
  | true =>
    show s1 { D with nx := s D } σ H1
    exact h1 rfl F0 H0 F1 H1 σ D S1 (p.ex k.f)
  | false =>
    show s2 { D with nx := s D } σ H1
    exact h2 rfl F0 H0 F1 H1 σ D S1 (p.ex k.f)
theorem se_le (h : Se P w K s env (.nx env1)) (l : Le env1 env2) : Se P w K s env (.nx env2) := fun F0 H0 F H σ D S p => h F0 H0 F H σ D S fun F1 H1 σ1 e1 S1 => p F1 H1 σ1 e1 (S1.le l)
theorem se_pre (l : Le env env1) (h : Se P w K s env1 o) : Se P w K s env o := fun F0 H0 F H σ D S p => h F0 H0 F H σ D (S.le l) p
theorem se_freeze {i : Nat} {t' : Option Addr} {v : Ow} (hi : env[i]? = some (.ow t' v)) (hd : v.dt = some d) (h : Se P w K s (env.set i (.d d)) o) : Se P w K s env o := fun F0 H0 F H σ D S p => by
  obtain ⟨a, ho, h1, h2, h3, h4, h5, S'⟩ := S.freeze hi hd
  exact h F0 H0 _ H σ D S' (p.ex (Ex.new h2))
theorem se_is (h : Se P w K s env o) {o' : Out} (e : o = o') : Se P w K s env o' := e ▸ h
def Gs (P : Program) (w : World) (K : PySem.W.Frag) (g : TGs) (ds : List Dt) (env env' : En) : Prop := ∀ F0 H0 F H σ vs, Sm P w K F0 H0 F H σ env → RpL K F ds vs → ∀ Q : L2.St → Hp → Prop, (∀ F' H' σ', Ex F F' → Sm P w K F0 H0 F' H' σ' env' → Q σ' H') → g vs σ H Q
theorem gs_nil : Gs P w K gNil [] env env := fun F0 H0 F H σ vs S r Q q => ⟨r, q F H σ (Ex.refl F) S⟩
theorem gs_cons {gr : TGs} (h : Ge P w K g d env env1) (hr : Gs P w K gr ds env1 env2) : Gs P w K (gCons g gr) (d :: ds) env env2 := fun F0 H0 F H σ vs S r Q q => by
  obtain ⟨v, rest, rfl, r1, r2⟩ := r
  exact ⟨v, rest, rfl, h F0 H0 F H σ v S r1 _ fun F1 H1 σ1 e1 S1 => hr F0 H0 F1 H1 σ1 rest S1 (r2.mono e1) Q fun F2 H2 σ2 e2 S2 => q F2 H2 σ2 (e1.trans e2) S2⟩
theorem ge_tup {gs : TGs} {n : Nat} (h : Gs P w K gs ds env env1) (hn : ds.length = n := by rfl) : Ge P w K (gTup K n gs) (.tup ds) env env1 := fun F0 H0 F H σ v S r Q q => by
  obtain ⟨a, vs, rfl, h1, h2⟩ := r
  exact ⟨a, vs, rfl, ex_t S.sub h1, by rw [← h2.length]; exact hn, h F0 H0 F H σ vs S h2 Q q⟩
theorem se_app {i : Nat} {t' : Option Addr} {xs : List Dt} (hi : env[i]? = some (.ow t' (.lst xs))) (h : Ee P w K te env d env1) (hi1 : env1[i]? = some (.ow t' (.lst xs)) := by rfl) (hz : xs.length < 100000) : Se P w K (tDrop (tBM K "list" rAppend (tVar i) (tCons te tNil))) env (.nx (env1.set i (.ow t' (.lst (xs ++ [d]))))) := fun F0 H0 F H σ D S p => by
  obtain ⟨a, ho, h1, g0, g1, g2, g3, vs, rfl, g4⟩ := S.own hi
  refine ⟨_, h1, .inl ⟨rfl, vs, sq_of g3⟩, h.2 F0 H0 F H σ S _ fun v F1 H1 k S1 r => ?_⟩
  obtain ⟨b, ho', e1, f0, f1, f2, f3, us, rfl, f4⟩ := S1.own hi1
  rw [h1] at e1
  cases e1
  exact ⟨a, us, v, rfl, rfl, f3, sz_lt (by rw [← f4.length]; exact hz), p F1 _ σ k.f (S1.mut hi1 h1 ⟨_, rfl, RpL.append f4 (RpL.cons r RpL.nil)⟩)⟩
theorem Sm.start {F H : Hp} {vs : List V} {N : List Str} (e : Ex F H) (r : RpL K F ds vs) : Sm P w K F H F H (L2.start N vs) (ds.map Sl.d ++ List.replicate (N.length - ds.length) Sl.u) := by
  have hl := r.length
  refine ⟨e, Wk.refl e, by simp [L2.start, hl], fun i s h => ?_, fun i j t t' u u' p ne e1 e2 _ => ?_⟩
  · unfold L2.start
    by_cases hi : i < ds.length
    · rw [List.getElem?_append_left (by simpa using hi), List.getElem?_map] at h
      cases q : ds[i]? with
      | none => rw [q] at h; cases h
      | some d =>
        rw [q] at h
        cases h
        obtain ⟨v, h1, h2⟩ := r.get q
        exact ⟨some v, by rw [List.getElem?_append_left (by simp; omega), List.getElem?_map, h1]; rfl, v, rfl, h2⟩
    · rw [List.getElem?_append_right (by simpa using hi), List.length_map, List.getElem?_replicate] at h
      split at h
      · rename_i lt
        cases h
        exact ⟨none, by rw [List.getElem?_append_right (by simp; omega), List.length_map, List.getElem?_replicate, if_pos (by omega)], rfl⟩
      · cases h
  · by_cases hi : i < ds.length
    · rw [List.getElem?_append_left (by simpa using hi), List.getElem?_map] at e1
      cases q : ds[i]? <;> rw [q] at e1 <;> cases e1
    · rw [List.getElem?_append_right (by simpa using hi), List.length_map, List.getElem?_replicate] at e1
      split at e1 <;> cases e1
/-- the body does what is due: for an exception, whatever the slots are -/
def Does (P : Program) (w : World) (K : PySem.W.Frag) (E : XK) (s : TS) (env : En) : Rs → Prop
  | .d d => Se P w K s env (.rt d) ∨ (d = .non ∧ ∃ e, Se P w K s env (.nx e))
  | .o u => Se P w K s env (.ro u)
  | .x x => ∃ e, Se P w K s env (.rz (fun cls d _ H => E cls d H) x e)
theorem run_r {N : List Str} {vs : List V} {H : Hp} {Q : VK} {E : XK} (h : spR P w K R vs H Q E) (b : ∀ ds r, R ds r → Does P w K E s (ds.map Sl.d ++ List.replicate (N.length - ds.length) Sl.u) r) : s { nx := fun _ H' => Q .non H', rt := Q } (L2.start N vs) H := by
  obtain ⟨F, ds, r, e, rp, hf, q⟩ := h
  have hb := b ds r hf
  cases r with
  | d d =>
    rcases hb with hb | ⟨rfl, e1, hb⟩
    · exact hb F H F H _ _ (Sm.start e rp) fun v F' H' k r' => q v F' H' k r'
    · exact hb F H F H _ _ (Sm.start e rp) fun F' H' σ' _ S => q .non F' H' S.g rfl
  | o u => exact hb F H F H _ _ (Sm.start e rp) fun p o F' H' k n0 n1 h1 r' => q p o F' H' k n0 n1 h1 r'
  | x x =>
    obtain ⟨e1, hb⟩ := hb
    exact hb F H F H _ _ (Sm.start e rp) fun od F' H' σ' _ S r' => q od F' H' S.g r'
end
end Qw
set_option maxHeartbeats 1000000
namespace Qw
open PySem PySem.Spec PyProof.Rows L2 Evl
open Pw (Dt Rp RpL Wk none_sub get_set set_same set_ne R2d R1d RLd RLn Kq KqL truD isEmpty_rp flatD fl py pyL rangeD rangeD_len charsD wl_at Wl wl_range rangeD_nat find_split itemD)
section
variable {P : Program} {w : World} {K : PySem.W.Frag} {env env1 env2 env3 : En} {ta tb te tc tl : TE} {t u : TT} {d e z : Dt} {s s1 s2 : TS} {o : Out} {g : TG} {tA : TA} {ds : List Dt} {wi : TI}
theorem ip_list (h : Ep P w K tl env (.lst ds)) : Ip P w K (iList K tl) env ds := fun F0 H0 F H σ S R k =>
  h F0 H0 F H σ S _ fun v F1 H1 k1 r => by
    obtain ⟨a, vs, rfl, h1, h2⟩ := r
    exact ⟨a, rfl, ⟨vs, ex_l k1.s h1⟩, k _ F1 H1 k1 (wl_at h2 walk_list fun H e => ex_l e h1)⟩
theorem ip_tup (h : Ep P w K tl env (.tup ds)) : Ip P w K (iTup K tl) env ds := fun F0 H0 F H σ S R k =>
  h F0 H0 F H σ S _ fun v F1 H1 k1 r => by
    obtain ⟨a, vs, rfl, h1, h2⟩ := r
    exact ⟨a, rfl, ⟨vs, ex_t k1.s h1⟩, k _ F1 H1 k1 (wl_at h2 walk_tup fun H e => ex_t e h1)⟩
theorem ip_rng1 {n : Int} (h : EpA P w K tA env [.int n]) (hn : -100000 ≤ n ∧ n ≤ 100000) : Ip P w K (iRng1 tA) env (rangeD 0 n.toNat) := fun F0 H0 F H σ S R k =>
  h F0 H0 F H σ S _ fun vs F1 H1 k1 r => by
    obtain ⟨v, r', rfl, e1, e2⟩ := r
    cases e1; cases e2
    exact ⟨n, rfl, by omega, by omega, k _ F1 H1 k1 wl_range⟩
theorem ip_str {x : Str} (h : Ep P w K tl env (.str x)) : Ip P w K (iStr tl) env (charsD x) := fun F0 H0 F H σ S R k =>
  h F0 H0 F H σ S _ fun v F1 H1 k1 r => by
    cases r
    refine ⟨x, rfl, k _ F1 H1 k1 ?_⟩
    have hl : (charsD x).length = x.cps.size := by simp [charsD]
    unfold Wl
    rw [hl]
    refine walk_str.mono (fun _ _ => trivial) fun i H x' H' hi e y F2 e2 e3 => ?_
    obtain ⟨rfl, c, hc, rfl⟩ := y
    exact ⟨F2, .str ⟨#[c]⟩, Wk.refl e3, by simp [charsD, hc], rfl⟩
theorem ie_p (h : Ip P w K wi env ds) : Ie P w K wi env ds env := fun F0 H0 F H σ S R k => h F0 H0 F H σ S R fun J F1 H1 k1 W => k J F1 H1 k1.f (S.wk k1) W
theorem se_for {tb : TS} (hI : Ie P w K wi env ds env1) (E : Nat → En) (m : Nat) (hm : m ≤ ds.length) (h0 : Le env1 (E 0))
    (hs : ∀ i d, i < m → ds[i]? = some d → ∃ e1, Ge P w K g d (E i) e1 ∧ Se P w K tb e1 (.nc (E (i + 1))))
    (hd : (m = ds.length ∧ o = .nx (E m)) ∨ ∃ d e1, ds[m]? = some d ∧ Ge P w K g d (E m) e1 ∧ ((o.fin = true ∧ (∀ e, o ≠ .bk e) ∧ (∀ e, o ≠ .ct e) ∧ Se P w K tb e1 o) ∨ ∃ e, o = .nx e ∧ Se P w K tb e1 (.bk e))) : Se P w K (tFor wi g tb) env o := fun F0 H0 F H σ D S p =>
  hI F0 H0 F H σ S _ fun J F1 H1 f1 S1 W => by
    refine for_it W (fun i σ H => i ≤ m ∧ ∃ F, Ex F1 F ∧ Sm P w K F0 H0 F H σ (E i)) ⟨Nat.zero_le m, F1, Ex.refl F1, S1.le h0⟩ (fun i σ H _ h => ?_) (fun i x σ H H' hi h y => ?_) (fun σ H h => ?_)
    · obtain ⟨_, F2, e2, S2⟩ := h
      exact e2.trans S2.sub
    · obtain ⟨him, F2, e2, S2⟩ := h
      obtain ⟨F3, d, w3, hd', r3⟩ := y F2 e2 S2.sub
      by_cases hlt : i < m
      · obtain ⟨e1, hg, hb⟩ := hs i d hlt hd'
        refine hg F0 H0 F3 H' σ x (S2.wk w3) r3 _ fun F4 H4 σ3 e3 S3 => ?_
        refine hb F0 H0 F4 H4 σ3 _ S3 fun F5 H5 σ4 e4 S4 => ⟨⟨hlt, F5, ((e2.trans w3.f).trans e3).trans e4, S4⟩, ⟨hlt, F5, ((e2.trans w3.f).trans e3).trans e4, S4⟩⟩
      · have him' : i = m := by omega
        subst him'
        rcases hd with ⟨e, _⟩ | ⟨d', e1, h1, hg, hb⟩
        · omega
        · rw [hd'] at h1
          cases h1
          refine hg F0 H0 F3 H' σ x (S2.wk w3) r3 _ fun F4 H4 σ3 e3 S3 => ?_
          have ef : Ex F F4 := ((f1.trans e2).trans w3.f).trans e3
          rcases hb with ⟨ho, nb, nc, hz⟩ | ⟨e, rfl, hz⟩
          · refine hz F0 H0 F4 H4 σ3 _ S3 ?_
            have p' := p.ex ef
            cases o <;> first | exact p' | (cases ho; done) | exact absurd rfl (nb _) | exact absurd rfl (nc _)
          · exact hz F0 H0 F4 H4 σ3 _ S3 fun F5 H5 σ4 e4 S4 => p F5 H5 σ4 (ef.trans e4) S4
    · obtain ⟨hn, F2, e2, S2⟩ := h
      have e : m = ds.length := by omega
      rcases hd with ⟨_, rfl⟩ | ⟨d', e1, h1, _⟩
      · rw [← e] at S2
        exact p F2 H σ (f1.trans e2) S2
      · have := (List.getElem?_eq_some_iff.mp h1).1
        omega
/-- a fold -/
theorem se_fold {α S : Type} {tb : TS} (xs : List α) (dec : α → Dt) (hds : ds = xs.map dec) (hI : Ip P w K wi env ds) (enc : S → En) (step : S → α → S) (Pv : S → List α → Prop) (s0 : S) (h0 : Le env (enc s0)) (p0 : Pv s0 [])
    (hs : ∀ s pre a post, xs = pre ++ a :: post → Pv s pre → Pv (step s a) (pre ++ [a]) ∧ ∃ e1, Ge P w K g (dec a) (enc s) e1 ∧ Se P w K tb e1 (.nc (enc (step s a)))) : Se P w K (tFor wi g tb) env (.nx (enc (xs.foldl step s0))) := by
  subst hds
  have key : ∀ i, i ≤ xs.length → Pv ((xs.take i).foldl step s0) (xs.take i) := by
    intro i
    induction i with
    | zero => intro _; exact p0
    | succ i ih =>
      intro hi
      have hx : xs = xs.take i ++ xs[i] :: xs.drop (i + 1) := by simp
      have e : xs.take (i + 1) = xs.take i ++ [xs[i]] := by simp
      rw [e, List.foldl_append]
      exact (hs _ (xs.take i) xs[i] (xs.drop (i + 1)) hx (ih (by omega))).1
  refine se_for (ie_p hI) (fun i => enc ((xs.take i).foldl step s0)) xs.length (by simp) h0 (fun i d hi hd => ?_) (.inl ⟨by simp, by simp⟩)
  rw [List.getElem?_map, List.getElem?_eq_getElem hi] at hd
  cases hd
  have hx : xs = xs.take i ++ xs[i] :: xs.drop (i + 1) := by simp
  obtain ⟨_, e1, h1, h2⟩ := hs _ (xs.take i) xs[i] (xs.drop (i + 1)) hx (key i (by omega))
  refine ⟨e1, h1, ?_⟩
  have e : xs.take (i + 1) = xs.take i ++ [xs[i]] := by simp
  rw [e, List.foldl_append]
  exact h2
/-- for i in range(n) -/
theorem se_rng {S : Type} {tb : TS} (n : Nat) (h : EpA P w K tA env [.int (n : Int)]) (hn : n ≤ 100000) (enc : S → En) (step : S → Nat → S) (Pv : S → Nat → Prop) (s0 : S) (h0 : Le env (enc s0)) (p0 : Pv s0 0)
    (hs : ∀ s (i : Nat), i < n → Pv s i → Pv (step s i) (i + 1) ∧ ∃ e1, Ge P w K g (.int (i : Int)) (enc s) e1 ∧ Se P w K tb e1 (.nc (enc (step s i)))) : Se P w K (tFor (iRng1 tA) g tb) env (.nx (enc ((List.range n).foldl step s0))) := by
  refine se_fold (List.range n) (fun i => Dt.int (i : Int)) (rangeD_nat n) (ip_rng1 h (by omega)) enc step (fun s pre => Pv s pre.length) s0 h0 p0 fun s pre i post hx hp => ?_
  have hi : pre.length < n ∧ i = pre.length := by
    have h1 := congrArg List.length hx
    have h2 : (List.range n)[pre.length]? = some i := by rw [hx]; simp
    simp at h1
    rw [List.getElem?_range (by omega)] at h2
    exact ⟨by omega, (Option.some.inj h2).symm⟩
  obtain ⟨hl, rfl⟩ := hi
  obtain ⟨h1, h2⟩ := hs s pre.length hl hp
  refine ⟨?_, h2⟩
  rw [List.length_append]
  exact h1
/-- a loop that searches: at the first d with p d it ends as z d says -/
theorem se_find {tb : TS} (p : Dt → Bool) (z : Dt → Out) (hz : ∀ d, (z d).fin = true ∧ (∀ e, z d ≠ .bk e) ∧ (∀ e, z d ≠ .ct e)) (hI : Ip P w K wi env ds) (E : En) (h0 : Le env E) (hs : ∀ d ∈ ds, ∃ e1, Ge P w K g d E e1 ∧ (p d = true → Se P w K tb e1 (z d)) ∧ (p d = false → Se P w K tb e1 (.nc E))) :
    Se P w K (tFor wi g tb) env (match ds.find? p with | some d => z d | none => .nx E) := by
  cases h : ds.find? p with
  | none =>
    have hn : ∀ d ∈ ds, p d = false := fun d hd => by simpa using List.find?_eq_none.mp h d hd
    refine se_for (ie_p hI) (fun _ => E) ds.length (Nat.le_refl _) h0 (fun i d hi hd => ?_) (.inl ⟨rfl, rfl⟩)
    have hm := List.mem_of_getElem? hd
    obtain ⟨e1, h1, _, h3⟩ := hs d hm
    exact ⟨e1, h1, h3 (hn d hm)⟩
  | some d =>
    obtain ⟨i, h1, h2, h3⟩ := find_split h
    have hi : i < ds.length := (List.getElem?_eq_some_iff.mp h1).1
    refine se_for (ie_p hI) (fun _ => E) i (Nat.le_of_lt hi) h0 (fun j x hj hx => ?_) (.inr ?_)
    · obtain ⟨e1, g1, _, g3⟩ := hs x (List.mem_of_getElem? hx)
      exact ⟨e1, g1, g3 (h3 j x hj hx)⟩
    · obtain ⟨e1, g1, g2, _⟩ := hs d (List.mem_of_getElem? h1)
      exact ⟨d, e1, h1, g1, .inl ⟨(hz d).1, (hz d).2.1, (hz d).2.2, g2 h2⟩⟩
theorem se_while {tb : TS} (Pv : En → Prop) (μ : En → Nat) (hs : ∀ e, Pv e → ∃ b, Te P w K t e b e ∧ (b = true → (∃ e', Pv e' ∧ μ e' < μ e ∧ Se P w K tb e (.nc e')) ∨ (o.fin = true ∧ (∀ e, o ≠ .bk e) ∧ (∀ e, o ≠ .ct e) ∧ Se P w K tb e o) ∨ ∃ e', o = .nx e' ∧ Se P w K tb e (.bk e')) ∧ (b = false → o = .nx e)) (h0 : Pv env) : Se P w K (tWhile t tb) env o := fun F0 H0 F H σ D S p => by
  refine ⟨fun m σ' H' => ∃ e F', Pv e ∧ μ e = m ∧ Ex F F' ∧ Sm P w K F0 H0 F' H' σ' e, ⟨_, env, F, h0, rfl, Ex.refl F, S⟩, ?_⟩
  rintro m σ' H' ⟨e, F', hP, rfl, ex, S'⟩
  obtain ⟨b, hb, h1, h2⟩ := hs e hP
  refine hb.2 F0 H0 F' H' σ' S' _ fun F1 H1 k S1 => ?_
  cases b with
  | true =>
    refine ⟨fun σ2 H2 => ∃ e2 F2, Pv e2 ∧ μ e2 < μ e ∧ Ex F F2 ∧ Sm P w K F0 H0 F2 H2 σ2 e2, fun σ2 H2 ⟨e2, F2, a, b, c, d⟩ => ⟨μ e2, b, e2, F2, a, rfl, c, d⟩, ?_⟩
    rcases h1 rfl with ⟨e', p1, p2, p3⟩ | ⟨ho, nb, nc, p3⟩ | ⟨e', rfl, p3⟩
    · exact p3 F0 H0 F1 H1 σ' _ S1 fun F4 H4 σ4 e4 S4 => ⟨⟨e', F4, p1, p2, (ex.trans k.f).trans e4, S4⟩, ⟨e', F4, p1, p2, (ex.trans k.f).trans e4, S4⟩⟩
    · refine p3 F0 H0 F1 H1 σ' _ S1 ?_
      have p' := p.ex (ex.trans k.f)
      cases o <;> first | exact p' | (cases ho; done) | exact absurd rfl (nb _) | exact absurd rfl (nc _)
    · exact p3 F0 H0 F1 H1 σ' _ S1 fun F4 H4 σ4 e4 S4 => p F4 H4 σ4 ((ex.trans k.f).trans e4) S4
  | false =>
    have := h2 rfl
    subst this
    exact p F1 H1 σ' (ex.trans k.f) S1
/-- targets of a comprehension: only the slots vs are stored, and the heap stays -/
def Gc (P : Program) (w : World) (K : PySem.W.Frag) (g : TG) (vs : List Nat) (d : Dt) (env env' : En) : Prop := ∀ F0 H0 F H (σ : L2.St) v, Sm P w K F0 H0 F H (L2.wipe σ vs) env → Rp K F d v → ∀ Q : L2.St → Hp → Prop, (∀ σ', L2.wipe σ' vs = L2.wipe σ vs → (∀ a, Own σ' env' a → Own (L2.wipe σ vs) env a) → Sm P w K F0 H0 F H σ' env' → Q σ' H) → g v (L2.wipe σ vs) H Q
theorem own_set {σ : L2.St} {j : Nat} {v : V} {a : Addr} (h : Own (σ.set j (some v)) (env.set j (.d d)) a) : Own σ env a := by
  obtain ⟨i, t, u, h1, h2⟩ := h
  rcases get_set h1 with ⟨_, z, _⟩ | ⟨ne, h1⟩
  · cases z
  · rw [set_ne ne] at h2
    exact ⟨i, t, u, h1, h2⟩
theorem own_unset {σ : L2.St} {j : Nat} {a : Addr} (h : Own (σ.set j none) (env.set j .u) a) : Own σ env a := by
  obtain ⟨i, t, u, h1, h2⟩ := h
  rcases get_set h1 with ⟨_, z, _⟩ | ⟨ne, h1⟩
  · cases z
  · rw [set_ne ne] at h2
    exact ⟨i, t, u, h1, h2⟩
theorem gc_name {j : Nat} : Gc P w K (gName j) [j] d env (env.set j (.d d)) := fun F0 H0 F H σ v S r Q q => q _ (by simp [L2.wipe, List.set_set]) (fun _ h => own_set h) (S.setD r)
def wipeE (e : En) : List Nat → En
  | [] => e
  | j :: r => (wipeE e r).set j .u
theorem Sm.wipe {F0 H0 F H : Hp} {σ : L2.St} {env : En} (S : Sm P w K F0 H0 F H σ env) : ∀ vs : List Nat, Sm P w K F0 H0 F H (L2.wipe σ vs) (wipeE env vs)
  | [] => S
  | j :: r => (Sm.wipe S r).setU j
theorem own_wipe {σ : L2.St} {env : En} {a : Addr} : ∀ {vs : List Nat}, Own (L2.wipe σ vs) (wipeE env vs) a → Own σ env a
  | [], h => h
  | j :: r, h => own_wipe (vs := r) (own_unset h)
/-- a list comprehension whose parts change nothing -/
theorem np_lcT {α : Type} {tt : TT} {vs : List Nat} (xs : List α) (dec : α → Dt) (hI : Ip P w K wi env (xs.map dec)) (hn : xs.length ≤ 40000) (p : α → Bool) (v : α → Dt)
    (hs : ∀ (i : Nat) (a : α), xs[i]? = some a → ∃ e1, Gc P w K g vs (dec a) (wipeE env vs) e1 ∧ Tp P w K tt e1 (p a) ∧ (p a = true → Ep P w K te e1 (v a))) : EpN P w K (tLc wi g tt te vs) env ((xs.filter p).map v) := fun F0 H0 F H σ S Q q =>
  hI F0 H0 F H σ S _ fun J F1 H1 k1 W D hD => by
    have nF : F1 D = none := none_sub k1.s hD
    have S1 := S.wk k1
    have n0 : H0 D = none := none_sub S1.g.h hD
    have nO : ¬ Own σ env D := S1.ownNew hD
    refine lc_it W (fun i H2 => ∃ F2 acc, Ex F1 F2 ∧ F2 D = none ∧ H2 D = some (.lst acc) ∧ RpL K F2 (((xs.take i).filter p).map v) acc ∧ Sm P w K F0 H0 F2 H2 σ env ∧ Ex H1 H2 ∧ (∀ a o, H1 a = some o → F1 a = none → F2 a = none))
      ⟨F1, [], Ex.refl F1, nF, upd_same, rfl, S1.upd _ nF n0 nO, Ex.new hD, fun _ _ _ n => n⟩ (fun i H2 _ h => ?_) (fun i x H2 H2' hi h y => ?_) (fun H2 h => ?_)
    · obtain ⟨F2, acc, e2, _, _, _, S2, _⟩ := h
      exact e2.trans S2.sub
    · obtain ⟨F2, acc, e2, d2, h2, r2, S2, x2, n2⟩ := h
      obtain ⟨F3, d', w3, hd', r3⟩ := y F2 e2 S2.sub
      rw [List.length_map] at hi
      rw [List.getElem?_map, List.getElem?_eq_getElem hi] at hd'
      obtain ⟨d, hd⟩ : ∃ d, xs[i]? = some d := ⟨_, List.getElem?_eq_getElem hi⟩
      have : d' = dec d := by
        rw [List.getElem?_eq_getElem hi] at hd
        cases hd
        exact (Option.some.inj hd').symm
      subst this
      obtain ⟨e1, hg, ht, he⟩ := hs i d hd
      have etake : xs.take (i + 1) = xs.take i ++ [d] := by
        rw [List.take_add_one, hd]
        rfl
      refine hg F0 H0 F3 H2' σ x ((S2.wk w3).wipe vs) r3 _ fun σ' hw _ S3 => ⟨hw, ?_⟩
      refine ht F0 H0 F3 H2' _ S3 _ fun F4 H4 w4 => ?_
      have hD4 : H4 D = some (.lst acc) := w4.h D _ (w3.h D _ h2)
      cases hp : p d with
      | true =>
        show te σ' H4 _
        refine he hp F0 H0 F4 H4 _ (S3.wk w4) _ fun vv F5 H5 w5 r5 => ?_
        have hD5 : H5 D = some (.lst acc) := w5.h D _ hD4
        have w35 : Wk F2 H2 F5 H5 := (w3.trans w4).trans w5
        have dF5 : F5 D = none := w35.n D _ h2 d2
        have hlen : acc.length < sizeLine := by
          rw [← r2.length, List.length_map]
          have h1 := List.length_filter_le p (xs.take i)
          have h2 : (xs.take i).length ≤ i := by simp; omega
          exact sz_lt (by omega)
        refine ⟨acc, hD5, hlen, F5, acc ++ [vv], e2.trans w35.f, dF5, upd_same, ?_, (S2.wk w35).upd _ dF5 n0 nO, fun a o h => ?_, fun a o h h' => w35.n a o (x2 a o h) (n2 a o h h')⟩
        · rw [etake, List.filter_append, List.map_append]
          refine RpL.append (r2.mono w35.f) ?_
          rw [List.filter_cons, if_pos hp]
          exact RpL.cons r5 RpL.nil
        · rw [upd_ne (ne_of_none h hD)]
          exact w35.h a o (x2 a o h)
      | false =>
        have w34 : Wk F2 H2 F4 H4 := w3.trans w4
        refine ⟨F4, acc, e2.trans w34.f, w34.n D _ h2 d2, hD4, ?_, S2.wk w34, x2.trans w34.h, fun a o h h' => w34.n a o (x2 a o h) (n2 a o h h')⟩
        rw [etake, List.filter_append, List.map_append, List.filter_cons, if_neg (by simp [hp])]
        show RpL K F4 (((xs.take i).filter p).map v ++ []) acc
        rw [List.append_nil]
        exact r2.mono w34.f
    · obtain ⟨F2, acc, e2, d2, h2, r2, S2, x2, n2⟩ := h
      rw [List.length_map, List.take_length] at r2
      exact q D acc F2 H2 (k1.trans ⟨e2, x2, S2.sub, n2⟩) (none_sub k1.h hD) d2 h2 r2
theorem np_lcG {tt : TT} {vs : List Nat} (hI : Ip P w K wi env ds) (hn : ds.length ≤ 40000) (p : Dt → Bool) (v : Dt → Dt)
    (hs : ∀ d ∈ ds, ∃ e1, Gc P w K g vs d (wipeE env vs) e1 ∧ Tp P w K tt e1 (p d) ∧ (p d = true → Ep P w K te e1 (v d))) : EpN P w K (tLc wi g tt te vs) env ((ds.filter p).map v) :=
  np_lcT ds id (by rw [List.map_id]; exact hI) hn p v fun i a h => hs a (List.mem_of_getElem? h)
theorem tp_yes : Tp P w K tYes env true := fun F0 H0 F H σ S Q q => q F H (Wk.refl S.sub)
theorem np_lc {tt : TT} {j : Nat} (hI : Ip P w K wi env ds) (hn : ds.length ≤ 40000) (p : Dt → Bool) (v : Dt → Dt) (ht : ∀ d ∈ ds, Tp P w K tt (env.set j (.d d)) (p d)) (he : ∀ d ∈ ds, p d = true → Ep P w K te (env.set j (.d d)) (v d)) :
    EpN P w K (tLc wi (gName j) tt te [j]) env ((ds.filter p).map v) := np_lcG hI hn p v fun d hd => ⟨_, gc_name, by rw [show wipeE env [j] = env.set j .u from rfl, List.set_set]; exact ⟨ht d hd, he d hd⟩⟩
theorem np_map {j : Nat} (hI : Ip P w K wi env ds) (hn : ds.length ≤ 40000) (v : Dt → Dt) (he : ∀ d ∈ ds, Ep P w K te (env.set j (.d d)) (v d)) : EpN P w K (tLc wi (gName j) tYes te [j]) env (ds.map v) := by
  have h := np_lc (te := te) (j := j) hI hn (fun _ => true) v (fun d _ => tp_yes) fun d hd _ => he d hd
  have e : ds.filter (fun _ => true) = ds := by simp
  rw [e] at h
  exact h
/-- .. over a typed list -/
theorem np_mapT {α : Type} {j : Nat} (xs : List α) (dec : α → Dt) (hI : Ip P w K wi env (xs.map dec)) (hn : xs.length ≤ 40000) (v : α → Dt) (he : ∀ (i : Nat) (a : α), xs[i]? = some a → Ep P w K te (env.set j (.d (dec a))) (v a)) : EpN P w K (tLc wi (gName j) tYes te [j]) env (xs.map v) := by
  have h := np_lcT (te := te) (vs := [j]) (g := gName j) (tt := tYes) xs dec hI hn (fun _ => true) v fun i a h => ⟨_, gc_name, tp_yes, fun _ => by rw [show wipeE env [j] = env.set j .u from rfl, List.set_set]; exact he i a h⟩
  have e : xs.filter (fun _ => true) = xs := by simp
  rw [e] at h
  exact h
theorem np_rng {j n : Nat} (h : EpA P w K tA env [.int (n : Int)]) (hn : n ≤ 40000) (v : Nat → Dt) (he : ∀ i : Nat, i < n → Ep P w K te (env.set j (.d (.int (i : Int)))) (v i)) : EpN P w K (tLc (iRng1 tA) (gName j) tYes te [j]) env ((List.range n).map v) := by
  have hl : (rangeD 0 (n : Int).toNat).length ≤ 40000 := by rw [rangeD_nat]; simpa using hn
  have h1 := np_map (te := te) (j := j) (ip_rng1 h (by omega)) hl (fun d => match d with | .int x => v x.toNat | _ => .non) fun d hd => by
    rw [rangeD_nat] at hd
    obtain ⟨i, hi, rfl⟩ := List.mem_map.mp hd
    exact he i (by simpa using hi)
  rw [rangeD_nat, List.map_map] at h1
  exact h1
end
end Qw
set_option maxHeartbeats 1000000
namespace Qw
open PySem PySem.Spec PyProof.Rows L2 Evl
open Pw (Dt Rp RpL Wk none_sub get_set set_same set_ne R2d R1d RLd RLn Kq KqL truD isEmpty_rp flatD fl py pyL rangeD rangeD_len charsD wl_at Wl wl_range rangeD_nat find_split itemD)
abbrev KD := List (Key × Dt)
abbrev dk (kvs : KD) : Dt := .dic (kvs.map Prod.fst) (kvs.map Prod.snd)
abbrev Ow.dk (kvs : KD) : Ow := .dic (kvs.map Prod.fst) (kvs.map Prod.snd)
def valD (kvs : KD) (k : Key) : Option Dt := (kvs.find? fun kv => decide (kv.1 = k)).map (·.2)
def putD (kvs : KD) (k : Key) (d : Dt) : KD := if (kvs.any fun kv => decide (kv.1 = k)) = true then kvs.map (fun kv => if kv.1 = k then (kv.1, d) else kv) else kvs ++ [(k, d)]
def kD : Key → Dt
  | .inl i => .int i
  | .inr x => .str x
theorem kD_rp {K : PySem.W.Frag} {F : Hp} {k : Key} {v : V} (h : Rp K F (kD k) v) : v = kV k := by cases k <;> exact h
section
variable {K : PySem.W.Frag} {F : Hp}
def PrD (K : PySem.W.Frag) (F : Hp) (kvs : KD) (q : List (Key × V)) : Prop := q.map Prod.fst = kvs.map Prod.fst ∧ RpL K F (kvs.map Prod.snd) (q.map Prod.snd)
theorem prD_of {kvs : KD} {vs : List V} (r : RpL K F (kvs.map Prod.snd) vs) : PrD K F kvs ((kvs.map Prod.fst).zip vs) := by
  have h := r.length
  refine ⟨?_, ?_⟩
  · rw [List.map_fst_zip]
    simpa using Nat.le_of_eq h
  · rw [List.map_snd_zip]
    · exact r
    · simpa using Nat.le_of_eq h.symm
theorem prD_zip {kvs : KD} {q : List (Key × V)} (h : PrD K F kvs q) : q = (kvs.map Prod.fst).zip (q.map Prod.snd) := by
  rw [← h.1]
  exact (List.zip_unzip q).symm.trans (by rw [List.unzip_eq_map])
theorem PrD.cons {k : Key} {d : Dt} {v : V} {kvs : KD} {q : List (Key × V)} (r : Rp K F d v) (h : PrD K F kvs q) : PrD K F ((k, d) :: kvs) ((k, v) :: q) := ⟨by simp [h.1], v, _, rfl, r, h.2⟩
theorem PrD.inv {p : Key × Dt} {kvs : KD} {q : List (Key × V)} (h : PrD K F (p :: kvs) q) : ∃ v q', q = (p.1, v) :: q' ∧ Rp K F p.2 v ∧ PrD K F kvs q' := by
  obtain ⟨h1, v, r, h2, h3, h4⟩ := h
  cases q with
  | nil => cases h2
  | cons a q =>
    cases h2
    simp only [List.map_cons, List.cons.injEq] at h1
    exact ⟨a.2, q, by rw [← h1.1], h3, h1.2, h4⟩
theorem PrD.nil {q : List (Key × V)} (h : PrD K F [] q) : q = [] := by
  obtain ⟨h1, _⟩ := h
  simpa using h1
theorem PrD.val : ∀ {kvs : KD} {q : List (Key × V)} (k : Key), PrD K F kvs q → (valD kvs k = none ∧ valV q k = none) ∨ ∃ d v, valD kvs k = some d ∧ valV q k = some v ∧ Rp K F d v
  | [], q, k, h => by
    rw [h.nil]
    exact .inl ⟨rfl, rfl⟩
  | p :: kvs, q, k, h => by
    obtain ⟨v, q', rfl, r, t⟩ := h.inv
    by_cases e : p.1 = k
    · exact .inr ⟨p.2, v, by simp [valD, List.find?_cons, e], by rw [valV_pos e], r⟩
    · rw [valV_neg e, show valD (p :: kvs) k = valD kvs k by simp [valD, List.find?_cons, e]]
      exact PrD.val k t
theorem PrD.any (k : Key) : ∀ {kvs : KD} {q : List (Key × V)}, PrD K F kvs q → (kvs.any fun kv => decide (kv.1 = k)) = (q.any fun kv => decide (kv.1 = k))
  | [], q, h => by rw [h.nil]; rfl
  | p :: kvs, q, h => by
    obtain ⟨v, q', rfl, r, t⟩ := h.inv
    rw [List.any_cons, List.any_cons, PrD.any k t]
theorem PrD.over {d : Dt} {v : V} (k : Key) (r : Rp K F d v) : ∀ {kvs : KD} {q : List (Key × V)}, PrD K F kvs q → PrD K F (kvs.map fun kv => if kv.1 = k then (kv.1, d) else kv) (q.map fun kv => if kv.1 = k then (kv.1, v) else kv)
  | [], q, h => by rw [h.nil]; exact ⟨rfl, rfl⟩
  | p :: kvs, q, h => by
    obtain ⟨u, q', rfl, r', t⟩ := h.inv
    simp only [List.map_cons]
    by_cases e : p.1 = k
    · rw [if_pos e, if_pos e]
      exact .cons r (PrD.over k r t)
    · rw [if_neg e, if_neg e]
      exact .cons r' (PrD.over k r t)
theorem PrD.put {kvs : KD} {q : List (Key × V)} {d : Dt} {v : V} (k : Key) (h : PrD K F kvs q) (r : Rp K F d v) : PrD K F (putD kvs k d) (putK q k v) := by
  unfold putD putK
  rw [h.any k]
  split
  · exact PrD.over k r h
  · refine ⟨by simp [h.1], ?_⟩
    rw [List.map_append, List.map_append]
    exact RpL.append h.2 ⟨v, [], rfl, r, rfl⟩
theorem PrD.mono {F' : Hp} {kvs : KD} {q : List (Key × V)} (e : Ex F F') (h : PrD K F kvs q) : PrD K F' kvs q := ⟨h.1, h.2.mono e⟩
theorem PrD.length {kvs : KD} {q : List (Key × V)} (h : PrD K F kvs q) : kvs.length = q.length := by
  have := congrArg List.length h.1
  simpa using this.symm
end
section
variable {P : Program} {w : World} {K : PySem.W.Frag} {env env1 env2 env3 : En} {ta tb td ty te tc tl : TE} {t u : TT} {d e z : Dt} {s s1 s2 : TS} {o : Out} {g : TG} {tA : TA} {ds : List Dt} {wi : TI} {kvs : KD} {k : Key}
theorem dk_at {F : Hp} {v : V} (h : Rp K F (dk kvs) v) : ∃ a q, v = .ref a ∧ F a = some (.dK q) ∧ PrD K F kvs q := by
  obtain ⟨a, vs, rfl, h1, h2, h3⟩ := h
  exact ⟨a, _, rfl, h1, prD_of h3⟩
theorem odk_at {F : Hp} {a : Addr} {ho : HO} (h : OwOk P w K F a (.dk kvs) ho) : ∃ q, ho = .dK q ∧ PrD K F kvs q := by
  obtain ⟨vs, rfl, h2, h3⟩ := h
  exact ⟨_, rfl, prD_of h3⟩
theorem odk_of {F : Hp} {a : Addr} {q : List (Key × V)} (h : PrD K F kvs q) : OwOk P w K F a (.dk kvs) (.dK q) := ⟨q.map Prod.snd, by rw [← prD_zip h], by simpa using h.length, h.2⟩
theorem dgetR {H : Hp} {a : Addr} {q : List (Key × V)} {k : Key} (h : Rd H a (.dK q)) : DGet H a (kV k) (valV q k) := .inl ⟨q, k, h, rfl, rfl⟩
/-- an expression that gives a dict: data, or one's own; it may be locked -/
def Edk (P : Program) (w : World) (K : PySem.W.Frag) (te : TE) (env : En) (kvs : KD) : Prop := ∀ F0 H0 F H σ, Sm P w K F0 H0 F H σ env → ∀ Q : VK, (∀ a q F' H', Wk F H F' H' → (∀ F2 H2, Wk F' H' F2 H2 → Rd H2 a (.dK q)) → PrD K F' kvs q → Q (.ref a) H') → te σ H Q
theorem edk_d (h : Ep P w K te env (dk kvs)) : Edk P w K te env kvs := fun F0 H0 F H σ S Q q => h F0 H0 F H σ S Q fun v F1 H1 k1 r => by
  obtain ⟨a, qs, rfl, h1, h2⟩ := dk_at r
  exact q a qs F1 H1 k1 (fun F2 H2 k2 => .inl (k2.h a _ (k1.s a _ h1))) h2
theorem edk_o {i : Nat} {t' : Option Addr} (hi : env[i]? = some (.ow t' (.dk kvs)) := by rfl) : Edk P w K (tVar i) env kvs := fun F0 H0 F H σ S Q q => by
  obtain ⟨a, ho, e1, _, g1, g2, g3, g4⟩ := S.own hi
  obtain ⟨qs, rfl, h2⟩ := odk_at g4
  exact ⟨_, e1, q a qs F H (Wk.refl S.sub) (fun F2 H2 k2 => .inl (k2.h a _ g3)) h2⟩
theorem ep_dget (h : Edk P w K td env kvs) (hk : Ep P w K ty env (kD k)) (hv : valD kvs k = some d) : Ep P w K (tDGet td ty) env d := fun F0 H0 F H σ S Q q =>
  h F0 H0 F H σ S _ fun a qs F1 H1 k1 st r => hk F0 H0 F1 H1 σ (S.wk k1) _ fun y F2 H2 k2 r2 => by
    rcases r.val k with ⟨z, _⟩ | ⟨d', v, e1, e2, r3⟩
    · rw [hv] at z; cases z
    · rw [hv] at e1
      cases e1
      rw [kD_rp r2]
      exact ⟨a, v, rfl, by rw [← e2]; exact dgetR (st F2 H2 k2), q v F2 H2 (k1.trans k2) (r3.mono k2.f)⟩
theorem ep_din (h : Edk P w K td env kvs) (hk : Ep P w K ty env (kD k)) : Ep P w K (tDIn ty td) env (.bl (valD kvs k).isSome) := fun F0 H0 F H σ S Q q =>
  hk F0 H0 F H σ S _ fun y F1 H1 k1 r1 => h F0 H0 F1 H1 σ (S.wk k1) _ fun a qs F2 H2 k2 st r => by
    rw [kD_rp r1]
    refine ⟨a, _, rfl, dgetR (st F2 H2 (Wk.refl k2.s)), ?_⟩
    have e : (valV qs k).isSome = (valD kvs k).isSome := by
      rcases r.val k with ⟨e1, e2⟩ | ⟨d', v, e1, e2, _⟩ <;> rw [e1, e2] <;> rfl
    rw [e]
    exact q _ F2 H2 (k1.trans k2) rfl
theorem ep_dni (h : Edk P w K td env kvs) (hk : Ep P w K ty env (kD k)) : Ep P w K (tDNotIn ty td) env (.bl (!(valD kvs k).isSome)) := fun F0 H0 F H σ S Q q =>
  hk F0 H0 F H σ S _ fun y F1 H1 k1 r1 => h F0 H0 F1 H1 σ (S.wk k1) _ fun a qs F2 H2 k2 st r => by
    rw [kD_rp r1]
    refine ⟨a, _, rfl, dgetR (st F2 H2 (Wk.refl k2.s)), ?_⟩
    have e : (valV qs k).isSome = (valD kvs k).isSome := by
      rcases r.val k with ⟨e1, e2⟩ | ⟨d', v, e1, e2, _⟩ <;> rw [e1, e2] <;> rfl
    rw [e]
    exact q _ F2 H2 (k1.trans k2) rfl
/-- d.get(k, x), the dict data or one's own, k and x perhaps changing other things -/
theorem ee_dget2 (hk : Ee P w K ty env (kD k) env1) (hx : Ep P w K te env1 e) (hd : Ep P w K td env (dk kvs)) : Ee P w K (tDGet2 td ty te) env ((valD kvs k).getD e) env1 := ⟨hk.1, fun F0 H0 F H σ S Q q =>
  hd F0 H0 F H σ S _ fun v F1 H1 k1 r => by
    obtain ⟨a, qs, rfl, h1, h2⟩ := dk_at r
    refine ⟨a, rfl, .inl ⟨qs, .inl (k1.s a _ h1)⟩, hk.2 F0 H0 F1 H1 σ (S.wk k1) _ fun y F2 H2 k2 S2 r2 => hx F0 H0 F2 H2 σ S2 _ fun x F3 H3 k3 r3 => ?_⟩
    rw [kD_rp r2]
    refine ⟨_, DGet.k (k3.s a _ (k3.f _ _ (k2.f _ _ h1))), ?_⟩
    have w1 : Wo σ env F H F3 H3 := (Wo.of k1).trans Sh.refl (k2.trans hk.1 (.of k3))
    rcases h2.val k with ⟨e1, e2⟩ | ⟨d', v, e1, e2, r4⟩
    · rw [e2]
      rw [e1] at q
      exact q x F3 H3 w1 (S2.wk k3) r3
    · rw [e2]
      rw [e1] at q
      exact q v F3 H3 w1 (S2.wk k3) (r4.mono (k2.f.trans k3.f))⟩
/-- d[k] = v -/
theorem se_dput {i : Nat} {t' : Option Addr} (hv : Ee P w K te env d env1) (hk : Ep P w K ty env1 (kD k)) (hi : env1[i]? = some (.ow t' (.dk kvs)) := by rfl) (hz : kvs.length < 100000) : Se P w K (sDPut (tVar i) ty te) env (.nx (env1.set i (.ow t' (.dk (putD kvs k d))))) := fun F0 H0 F H σ D S p =>
  hv.2 F0 H0 F H σ S _ fun v F1 H1 k1 S1 r1 => by
    obtain ⟨a, ho, e1, _, g1, g2, g3, g4⟩ := S1.own hi
    refine ⟨_, e1, hk F0 H0 F1 H1 σ S1 _ fun y F2 H2 k2 r2 => ?_⟩
    obtain ⟨qs, rfl, h2⟩ := odk_at g4
    rw [kD_rp r2]
    exact ⟨a, _, rfl, DPut.k (k2.h a _ g3) (sz_lt (by rw [← h2.length]; exact hz)), p F2 _ σ (k1.f.trans k2.f) ((S1.wk k2).mut hi e1 (odk_of ((h2.mono k2.f).put k (r1.mono k2.f))))⟩
/-- {k: v for ..} -/
theorem po_dc {α : Type} {tt : TT} {vs : List Nat} (xs : List α) (dec : α → Dt) (hI : Ip P w K wi env (xs.map dec)) (hn : xs.length ≤ 40000) (p : α → Bool) (kf : α → Key) (vf : α → Dt)
    (hs : ∀ (i : Nat) (a : α), xs[i]? = some a → ∃ e1, Gc P w K g vs (dec a) (wipeE env vs) e1 ∧ Tp P w K tt e1 (p a) ∧ (p a = true → Ep P w K ty e1 (kD (kf a)) ∧ Ep P w K te e1 (vf a))) : EpO P w K (tDc wi g tt ty te vs) env (.dk ((xs.filter p).foldl (fun q a => putD q (kf a) (vf a)) [])) := fun F0 H0 F H σ S Q q =>
  hI F0 H0 F H σ S _ fun J F1 H1 k1 W D hD => by
    have nF : F1 D = none := none_sub k1.s hD
    have S1 := S.wk k1
    have n0 : H0 D = none := none_sub S1.g.h hD
    have nO : ¬ Own σ env D := S1.ownNew hD
    have small : ∀ (l : List α) (q : KD), (l.foldl (fun q a => putD q (kf a) (vf a)) q).length ≤ q.length + l.length := by
      intro l
      induction l with
      | nil => intro q; exact Nat.le_refl _
      | cons a l ih =>
        intro q
        have h1 : (putD q (kf a) (vf a)).length ≤ q.length + 1 := by
          unfold putD
          split <;> simp
        have := ih (putD q (kf a) (vf a))
        simp only [List.foldl_cons, List.length_cons]
        omega
    refine ⟨fun i m H2 => m = xs.length - i ∧ i ≤ xs.length ∧ ∃ F2 acc, Ex F1 F2 ∧ F2 D = none ∧ H2 D = some (.dK acc) ∧ PrD K F2 (((xs.take i).filter p).foldl (fun q a => putD q (kf a) (vf a)) []) acc ∧ Sm P w K F0 H0 F2 H2 σ env ∧ Ex H1 H2 ∧ (∀ a o, H1 a = some o → F1 a = none → F2 a = none),
      ⟨xs.length, by simp, Nat.zero_le _, F1, [], Ex.refl F1, nF, upd_same, ⟨rfl, rfl⟩, S1.upd _ nF n0 nO, Ex.new hD, fun _ _ _ n => n⟩, ?_⟩
    rintro i m H2 ⟨rfl, hi, F2, acc, e2, d2, h2, r2, S2, x2, n2⟩
    have W' := W
    unfold Wl at W'
    rw [List.length_map] at W'
    by_cases hlt : i < xs.length
    · refine .inr ⟨W'.goes i H2 hlt (e2.trans S2.sub), fun H' => ∃ F2 acc, Ex F1 F2 ∧ F2 D = none ∧ H' D = some (.dK acc) ∧ PrD K F2 (((xs.take (i + 1)).filter p).foldl (fun q a => putD q (kf a) (vf a)) []) acc ∧ Sm P w K F0 H0 F2 H' σ env ∧ Ex H1 H' ∧ (∀ a o, H1 a = some o → F1 a = none → F2 a = none), fun H' q => ⟨xs.length - (i + 1), by omega, rfl, hlt, q⟩, fun x H2' y => ?_⟩
      obtain ⟨F3, d', w3, hd', r3⟩ := W'.yields i H2 x H2' hlt (e2.trans S2.sub) y F2 e2 S2.sub
      rw [List.getElem?_map, List.getElem?_eq_getElem hlt] at hd'
      obtain ⟨a, ha⟩ : ∃ a, xs[i]? = some a := ⟨_, List.getElem?_eq_getElem hlt⟩
      have : d' = dec a := by
        rw [List.getElem?_eq_getElem hlt] at ha
        cases ha
        exact (Option.some.inj hd').symm
      subst this
      obtain ⟨e1, hg, ht, he⟩ := hs i a ha
      have etake : xs.take (i + 1) = xs.take i ++ [a] := by
        rw [List.take_add_one, ha]
        rfl
      refine hg F0 H0 F3 H2' σ x ((S2.wk w3).wipe vs) r3 _ fun σ' hw _ S3 => ⟨hw, ?_⟩
      refine ht F0 H0 F3 H2' _ S3 _ fun F4 H4 w4 => ?_
      have hD4 : H4 D = some (.dK acc) := w4.h D _ (w3.h D _ h2)
      rw [etake, List.filter_append, List.foldl_append]
      cases hp : p a with
      | true =>
        show ty σ' H4 _
        obtain ⟨he1, he2⟩ := he hp
        refine he1 F0 H0 F4 H4 _ (S3.wk w4) _ fun yv F5 H5 w5 r5 => he2 F0 H0 F5 H5 _ ((S3.wk w4).wk w5) _ fun vv F6 H6 w6 r6 => ?_
        have hD6 : H6 D = some (.dK acc) := w6.h D _ (w5.h D _ hD4)
        have w36 : Wk F2 H2 F6 H6 := ((w3.trans w4).trans w5).trans w6
        have dF6 : F6 D = none := w36.n D _ h2 d2
        rw [kD_rp r5]
        refine ⟨acc, kf a, rfl, hD6, ?_, F6, _, e2.trans w36.f, dF6, upd_same, ?_, (S2.wk w36).upd _ dF6 n0 nO, fun a o h => ?_, fun a o h h' => w36.n a o (x2 a o h) (n2 a o h h')⟩
        · rw [← r2.length]
          have h1 := small ((xs.take i).filter p) []
          have h3 := List.length_filter_le p (xs.take i)
          have h4 : (xs.take i).length ≤ i := by simp; omega
          simp only [List.length_nil] at h1
          exact sz_lt (by omega)
        · rw [List.filter_cons, if_pos hp]
          exact (r2.mono w36.f).put _ r6
        · rw [upd_ne (ne_of_none h hD)]
          exact w36.h a o (x2 a o h)
      | false =>
        have w34 : Wk F2 H2 F4 H4 := w3.trans w4
        refine ⟨F4, acc, e2.trans w34.f, w34.n D _ h2 d2, hD4, ?_, S2.wk w34, x2.trans w34.h, fun a o h h' => w34.n a o (x2 a o h) (n2 a o h h')⟩
        rw [List.filter_cons, if_neg (by simp [hp])]
        exact r2.mono w34.f
    · have e : i = xs.length := by omega
      subst e
      rw [List.take_length] at r2
      exact .inl ⟨W'.stops H2 (e2.trans S2.sub), q D _ F2 H2 (k1.trans ⟨e2, x2, S2.sub, n2⟩) (none_sub k1.h hD) d2 h2 (odk_of r2)⟩
end
end Qw
set_option maxHeartbeats 1000000
namespace Qw
open PySem PySem.Spec PyProof.Rows L2 Evl
open Pw (Dt Rp RpL Wk none_sub get_set set_same set_ne R2d R1d RLd RLn Kq KqL truD isEmpty_rp flatD fl py pyL rangeD rangeD_len charsD wl_at Wl wl_range rangeD_nat find_split itemD spX2 Xm Xm0)
/-- the def x of the text stands behind the top as st tells it -/
def Dx (K : PySem.W.Frag) (mg : Str → Option Value) (x : Str) (ps : List Str) (st : Stmt) : Prop :=
  ∃ f fd, mg x = some (.ref f) ∧ FunD K x x (defArgs st) (defBody st) (defScope st) [] [] f fd ∧ Binds K fd ps []
/-- x is called by name and keeps sp; it may raise as sp tells -/
def Fx (P : Program) (w : World) (K : PySem.W.Frag) (mg : Str → Option Value) (base : Heap) (k : Nat) (x : Str) (ps : List Str) (sp : Sp) : Prop :=
  ∃ f fd, mg x = some (.ref f) ∧ PySem.W.keepIn K (.ref f) = true ∧ Binds K fd ps [] ∧ FnOk P w K mg base (L2.CX P w) k f fd ps sp
/-- a method's def, of the class at C, its full name q -/
def Dm (K : PySem.W.Frag) (C : Addr) (m q : Str) (ps : List Str) (st : Stmt) : Prop :=
  ∃ f fd, Meth K C m f ∧ FunD K m q (defArgs st) (defBody st) (defScope st) [] [] f fd ∧ Binds K fd ps []
def Mx (P : Program) (w : World) (K : PySem.W.Frag) (mg : Str → Option Value) (base : Heap) (k : Nat) (C : Addr) (m : Str) (ps : List Str) (sp : Sp) : Prop :=
  ∃ f fd, Meth K C m f ∧ Binds K fd ps [] ∧ FnOk P w K mg base (L2.CX P w) k f fd ps sp
/-- the __init__ of the class x at C -/
def Di (K : PySem.W.Frag) (mg : Str → Option Value) (C : Addr) (x q : Str) (ps : List Str) (st : Stmt) : Prop :=
  ∃ f fd, mg x = some (.ref C) ∧ Mk K C f ∧ FunD K "__init__" q (defArgs st) (defBody st) (defScope st) [] [] f fd ∧ Binds K fd ps []
def Ix (P : Program) (w : World) (K : PySem.W.Frag) (mg : Str → Option Value) (base : Heap) (k : Nat) (C : Addr) (x : Str) (ps : List Str) (sp : Sp) : Prop :=
  ∃ f fd, mg x = some (.ref C) ∧ Mk K C f ∧ Binds K fd ps [] ∧ FnOk P w K mg base (L2.CX P w) k f fd ps sp
section
variable {P : Program} {w : World} {K : PySem.W.Frag} {mg : Str → Option Value} {base : Heap} {R : List Dt → Rs → Prop}
theorem Fx.mono {j k : Nat} {x : Str} {ps : List Str} {sp : Sp} (F : Fx P w K mg base j x ps sp) (h : j ≤ k) : Fx P w K mg base k x ps sp := by
  obtain ⟨f, fd, h1, h2, h3, h4⟩ := F
  exact ⟨f, fd, h1, h2, h3, h4.mono h⟩
theorem Fx.imp {k : Nat} {x : Str} {ps : List Str} {sp sp' : Sp} (F : Fx P w K mg base k x ps sp) (h : ∀ vs H Q E, sp' vs H Q E → sp vs H Q E) : Fx P w K mg base k x ps sp' := by
  obtain ⟨f, fd, h1, h2, h3, h4⟩ := F
  exact ⟨f, fd, h1, h2, h3, h4.imp h⟩
/-- THE RULE: a def that raises nothing -/
theorem Fx.of {x : Str} {ps N : List Str} {st : Stmt} {k : Nat} (D : Dx K mg x ps st) (S : FnScope N ps (defScope st)) (hl : ∀ ds r, R ds r → ds.length = ps.length)
    (hb : ∀ (f : Addr) (cdv : Value) (A : Around) (outer : List Env) (s : Shared) (H : Hp) (E : XK), Room k (A.deeper (envOfC x (defScope st) s.heap.objs.size f cdv)) →
      ∃ t, PSs (cxOf (L2.CX P w) P w K mg base N x (defScope st) f cdv A outer s H E).nox (defBody st) t ∧ ∀ ds r, R ds r → Does P w K E t (ds.map Sl.d ++ List.replicate (N.length - ds.length) Sl.u) r) :
    Fx P w K mg base (k + 1) x ps (spR P w K R) := by
  obtain ⟨f, fd, h1, F, h3⟩ := D
  refine ⟨f, fd, h1, F.kp, h3, F.ok S (fun vs H Q E h => spR_len hl vs H Q E h) fun cdv A outer s H vs Q E hr h => ?_⟩
  obtain ⟨t, ht, hs⟩ := hb f cdv A outer s H E hr
  exact ⟨t, PSs.nox ht, run_r h hs⟩
/-- .. a def that may raise -/
theorem Fx.ofX {x : Str} {ps N : List Str} {st : Stmt} {k : Nat} (D : Dx K mg x ps st) (S : FnScope N ps (defScope st)) (hl : ∀ ds r, R ds r → ds.length = ps.length)
    (hb : ∀ (f : Addr) (cdv : Value) (A : Around) (outer : List Env) (s : Shared) (H : Hp) (E : XK), Room k (A.deeper (envOfC x (defScope st) s.heap.objs.size f cdv)) →
      Takes (cxOf (L2.CX P w) P w K mg base N x (defScope st) f cdv A outer s H E) (fun cls d _ H => E cls d H) →
      ∃ t, PSs (cxOf (L2.CX P w) P w K mg base N x (defScope st) f cdv A outer s H E) (defBody st) t ∧ ∀ ds r, R ds r → Does P w K E t (ds.map Sl.d ++ List.replicate (N.length - ds.length) Sl.u) r) :
    Fx P w K mg base (k + 1) x ps (spR P w K R) := by
  obtain ⟨f, fd, h1, F, h3⟩ := D
  refine ⟨f, fd, h1, F.kp, h3, F.ok S (fun vs H Q E h => spR_len hl vs H Q E h) fun cdv A outer s H vs Q E hr h => ?_⟩
  obtain ⟨t, ht, hs⟩ := hb f cdv A outer s H E hr (takes_of rfl rfl rfl rfl)
  exact ⟨t, ht, run_r h hs⟩
theorem Mx.of {C : Addr} {m q : Str} {ps N : List Str} {st : Stmt} {k : Nat} (D : Dm K C m q ps st) (S : FnScope N ps (defScope st)) (hl : ∀ ds r, R ds r → ds.length = ps.length)
    (hb : ∀ (f : Addr) (cdv : Value) (A : Around) (outer : List Env) (s : Shared) (H : Hp) (E : XK), Room k (A.deeper (envOfC q (defScope st) s.heap.objs.size f cdv)) →
      ∃ t, PSs (cxOf (L2.CX P w) P w K mg base N q (defScope st) f cdv A outer s H E).nox (defBody st) t ∧ ∀ ds r, R ds r → Does P w K E t (ds.map Sl.d ++ List.replicate (N.length - ds.length) Sl.u) r) :
    Mx P w K mg base (k + 1) C m ps (spR P w K R) := by
  obtain ⟨f, fd, h1, F, h3⟩ := D
  refine ⟨f, fd, h1, h3, F.ok S (fun vs H Q E h => spR_len hl vs H Q E h) fun cdv A outer s H vs Q E hr h => ?_⟩
  obtain ⟨t, ht, hs⟩ := hb f cdv A outer s H E hr
  exact ⟨t, PSs.nox ht, run_r h hs⟩
theorem Mx.mono {j k : Nat} {C : Addr} {m : Str} {ps : List Str} {sp : Sp} (F : Mx P w K mg base j C m ps sp) (h : j ≤ k) : Mx P w K mg base k C m ps sp := by
  obtain ⟨f, fd, h1, h3, h4⟩ := F
  exact ⟨f, fd, h1, h3, h4.mono h⟩
/-- the promise of an __init__: what it is given, the fields it stores (in their order), or what it raises -/
inductive Ri where
  | f (fs : List Str) (ds : List Dt) | x (x : Xn)
def spI (P : Program) (w : World) (K : PySem.W.Frag) (C : Addr) (R : List Dt → Ri → Prop) : Sp := fun vs H Q E => ∃ F p dx vs' ds r, vs = .ref p :: vs' ∧ Ex F H ∧ F p = none ∧ H p = some (.ins C dx []) ∧ RpL K F ds vs' ∧ R ds r ∧ (match r with
  | .f fs es => ∀ F' H' o, Ex F F' → Ex F' H' → (∀ a z, a ≠ p → H a = some z → H' a = some z) → (∀ a z, H a = some z → F a = none → F' a = none) → H' p = some o → OwOk P w K F' p (.ins C fs es) o → Q .non H'
  | .x y => ∀ od F' H', Ex F F' → Ex F' H' → (∀ a z, a ≠ p → H a = some z → H' a = some z) → (∀ a z, a ≠ p → H a = some z → F a = none → F' a = none) → XnOk K F' y od → E (.ref y.C) od H')
/-- H without p -/
def hide (H : Hp) (p : Addr) : Hp := fun a => if a = p then none else H a
theorem hide_same {H : Hp} {p : Addr} : hide H p p = none := if_pos rfl
theorem hide_ne {H : Hp} {p a : Addr} (h : a ≠ p) : hide H p a = H a := if_neg h
theorem hide_ex {H : Hp} {p : Addr} : Ex (hide H p) H := fun a u e => by
  by_cases z : a = p
  · subst z
    rw [hide_same] at e
    cases e
  · rwa [hide_ne z] at e
theorem ex_hide {F H : Hp} {p : Addr} (e : Ex F H) (h : F p = none) : Ex F (hide H p) := fun a u z => by
  rw [hide_ne (ne_of_none z h)]
  exact e a u z
/-- a body whose first slot is a thing of one's own at p -/
theorem Sm.startO {F H : Hp} {ds : List Dt} {vs : List V} {N : List Str} {p : Addr} {u : Ow} {o : HO} (e : Ex F H) (hF : F p = none) (hp : H p = some o) (ho : OwOk P w K F p u o) (r : RpL K F ds vs) :
    Sm P w K F (hide H p) F H (L2.start N (.ref p :: vs)) (Sl.ow (some p) u :: (ds.map Sl.d ++ List.replicate (N.length - (ds.length + 1)) Sl.u)) := by
  have hl := r.length
  have base : Sm P w K F (hide H p) F (hide H p) (List.map some vs ++ List.replicate (N.length - (ds.length + 1)) none) (ds.map Sl.d ++ List.replicate (N.length - (ds.length + 1)) Sl.u) := by
    refine ⟨ex_hide e hF, Wk.refl (ex_hide e hF), by simp [hl], fun i s h => ?_, fun i j t t' u u' q ne e1 e2 _ => ?_⟩
    · by_cases hi : i < ds.length
      · rw [List.getElem?_append_left (by simpa using hi), List.getElem?_map] at h
        cases q : ds[i]? with
        | none => rw [q] at h; cases h
        | some d =>
          rw [q] at h
          cases h
          obtain ⟨v, h1, h2⟩ := r.get q
          exact ⟨some v, by rw [List.getElem?_append_left (by simp; omega), List.getElem?_map, h1]; rfl, v, rfl, h2⟩
      · rw [List.getElem?_append_right (by simpa using hi), List.length_map, List.getElem?_replicate] at h
        split at h
        · rename_i lt
          cases h
          exact ⟨none, by rw [List.getElem?_append_right (by simp; omega), List.length_map, List.getElem?_replicate, if_pos (by omega)], rfl⟩
        · cases h
    · by_cases hi : i < ds.length
      · rw [List.getElem?_append_left (by simpa using hi), List.getElem?_map] at e1
        cases q : ds[i]? <;> rw [q] at e1 <;> cases e1
      · rw [List.getElem?_append_right (by simpa using hi), List.length_map, List.getElem?_replicate] at e1
        split at e1 <;> cases e1
  refine ⟨ex_hide e hF, ⟨Ex.refl F, hide_ex, e, fun _ _ _ h => h⟩, by simp [L2.start, hl], fun i s h => ?_, fun i j t t' u1 u2 q ne e1 e2 h1 h2 => ?_⟩
  · cases i with
    | zero =>
      cases h
      exact ⟨_, rfl, p, o, rfl, (fun q z => Option.some.inj z), hF, hide_same, hp, ho⟩
    | succ i =>
      obtain ⟨v, h1, h2⟩ := base.sl i s (by simpa using h)
      refine ⟨v, by simp only [L2.start, List.length_cons, List.map_cons, List.cons_append, List.getElem?_cons_succ]; rw [← hl]; exact h1, ?_⟩
      cases s with
      | x => trivial
      | u => exact h2
      | d d => exact h2
      | ex a od y => exact h2
      | lk y x => exact h2
      | ow t' u' =>
        exfalso
        by_cases hi : i < ds.length
        · rw [List.getElem?_cons_succ, List.getElem?_append_left (by simpa using hi), List.getElem?_map] at h
          cases q : ds[i]? <;> rw [q] at h <;> cases h
        · rw [List.getElem?_cons_succ, List.getElem?_append_right (by simpa using hi), List.length_map, List.getElem?_replicate] at h
          split at h <;> cases h
  · have no : ∀ (k : Nat) (t : Option Addr) (u' : Ow), (Sl.ow (some p) u :: (ds.map Sl.d ++ List.replicate (N.length - (ds.length + 1)) Sl.u))[k]? = some (.ow t u') → k = 0 := by
      intro k t u' h
      cases k with
      | zero => rfl
      | succ k =>
        exfalso
        by_cases hi : k < ds.length
        · rw [List.getElem?_cons_succ, List.getElem?_append_left (by simpa using hi), List.getElem?_map] at h
          cases q : ds[k]? <;> rw [q] at h <;> cases h
        · rw [List.getElem?_cons_succ, List.getElem?_append_right (by simpa using hi), List.length_map, List.getElem?_replicate] at h
          split at h <;> cases h
    exact ne ((no i _ _ e1).trans (no j _ _ e2).symm)
end
end Qw
set_option maxHeartbeats 1000000
namespace Qw
open PySem PySem.Spec PyProof.Rows L2 Evl
open Pw (Dt Rp RpL Wk none_sub get_set set_same set_ne R2d R1d RLd RLn Kq KqL truD isEmpty_rp flatD fl py pyL rangeD rangeD_len charsD wl_at Wl wl_range rangeD_nat find_split itemD spX2 Xm Xm0 zip_lookup)
section
variable {P : Program} {w : World} {K : PySem.W.Frag} {mg : Str → Option Value} {base : Heap} {env env1 env2 : En} {ta tb te tv : TE} {tA t : TA} {d e : Dt} {ds es : List Dt} {C : Addr} {fs : List Str} {R : List Dt → Rs → Prop} {s : TS} {o : Out} {i : Nat} {t' : Option Addr}
def DoesI (P : Program) (w : World) (K : PySem.W.Frag) (E : XK) (C p : Addr) (t : TS) (env : En) : Ri → Prop
  | .f fs es => ∃ e : En, e[0]? = some (.ow (some p) (.ins C fs es)) ∧ Se P w K t env (.nx e)
  | .x y => ∃ e, Se P w K t env (.rz (fun cls d _ H => E cls d H) y e)
theorem Ix.of {x q : Str} {ps N : List Str} {st : Stmt} {k : Nat} {Ri : List Dt → Ri → Prop} (D : Di K mg C x q ps st) (S : FnScope N ps (defScope st)) (hl : ∀ ds r, Ri ds r → ds.length + 1 = ps.length)
    (hb : ∀ (f : Addr) (cdv : Value) (A : Around) (outer : List Env) (s : Shared) (H : Hp) (E : XK), Room k (A.deeper (envOfC q (defScope st) s.heap.objs.size f cdv)) →
      Takes (cxOf (L2.CX P w) P w K mg base N q (defScope st) f cdv A outer s H E) (fun cls d _ H => E cls d H) →
      ∃ t, PSs (cxOf (L2.CX P w) P w K mg base N q (defScope st) f cdv A outer s H E) (defBody st) t ∧ ∀ p ds r, Ri ds r → DoesI P w K E C p t (Sl.ow (some p) (.ins C [] []) :: (ds.map Sl.d ++ List.replicate (N.length - (ds.length + 1)) Sl.u)) r) :
    Ix P w K mg base (k + 1) C x ps (spI P w K C Ri) := by
  obtain ⟨f, fd, h1, hm, F, h3⟩ := D
  refine ⟨f, fd, h1, hm, h3, F.ok S (fun vs H Q E h => ?_) fun cdv A outer s H vs Q E hr h => ?_⟩
  · obtain ⟨F, p, dx, vs', ds, r, rfl, _, _, _, rp, hR, _⟩ := h
    have := hl ds r hR
    rw [List.length_cons, ← rp.length]
    exact this
  · obtain ⟨t, ht, hs⟩ := hb f cdv A outer s H E hr (takes_of rfl rfl rfl rfl)
    refine ⟨t, ht, ?_⟩
    obtain ⟨F, p, dx, vs', ds, r, rfl, ex, nF, hp, rp, hR, q⟩ := h
    have hs' := hs p ds r hR
    have S0 := Sm.startO (P := P) (w := w) (N := N) (u := .ins C [] []) ex nF hp ⟨dx, [], rfl, rfl, rfl⟩ rp
    cases r with
    | f fs es =>
      obtain ⟨e1, he, hse⟩ := hs'
      refine hse F (hide H p) F H _ _ S0 fun F' H' σ' e2 S' => ?_
      obtain ⟨p', o', g1, g2, g3, g4, g5, g6⟩ := S'.own he
      obtain rfl := g2 p rfl
      exact q F' H' o' e2 S'.sub (fun a z ne hz => S'.g.h a z (by rw [hide_ne ne]; exact hz)) (fun a z hz hn => by
        by_cases e : a = p'
        · subst e
          exact g3
        · exact S'.g.n a z (by rw [hide_ne e]; exact hz) hn) g5 g6
    | x y =>
      obtain ⟨e1, hse⟩ := hs'
      exact hse F (hide H p) F H _ _ S0 fun od F' H' σ' e2 S' hx => q od F' H' e2 S'.sub (fun a z ne hz => S'.g.h a z (by rw [hide_ne ne]; exact hz)) (fun a z ne hz => S'.g.n a z (by rw [hide_ne ne]; exact hz)) hx
theorem po_make {E : XK} {Rc : List Dt → Ri → Prop} (h : EpA P w K tA env ds) (hR : Rc ds (.f fs es)) : EpO P w K (tMake C (spI P w K C Rc) [] E tA) env (.ins C fs es) := fun F0 H0 F H σ S Q q =>
  h F0 H0 F H σ S _ fun vs F1 H1 k1 r1 x dx hx hdx ne => by
    have n1 : F1 x = none := none_sub k1.s hx
    refine ⟨F1, x, dx, vs, ds, .f fs es, by rw [List.append_nil], fun a u z => ?_, n1, upd_same, r1, hR, fun F2 H2 o2 f2 s2 k2 n2 h2 r2 => ⟨rfl, q x o2 F2 H2 ⟨k1.f.trans f2, fun a u z => ?_, s2, fun a u z n => ?_⟩ (none_sub k1.h hx) ?_ h2 r2⟩⟩
    · rw [upd_ne (ne_of_none z n1), upd_ne (ne_of_none z (none_sub k1.s hdx))]
      exact k1.s a u z
    · have z1 := k1.h a u z
      refine k2 a u (ne_of_none z1 hx) ?_
      rw [upd_ne (ne_of_none z1 hx), upd_ne (ne_of_none z1 hdx)]
      exact z1
    · have z1 := k1.h a u z
      refine n2 a u ?_ (k1.n a u z n)
      rw [upd_ne (ne_of_none z1 hx), upd_ne (ne_of_none z1 hdx)]
      exact z1
    · exact n2 x _ upd_same n1
theorem ep_fld {n : Str} (c : Cls K C) (hn : NoAttr K C n) (h : Ep P w K ta env (.obj C fs ds)) (hl : (fs.zip ds).lookup n = some d) : Ep P w K (tFld K ta n) env d := fun F0 H0 F H σ S Q q =>
  h F0 H0 F H σ S _ fun v F1 H1 k1 r => by
    obtain ⟨a, dx, vs, rfl, h1, h2, h3⟩ := r
    obtain ⟨u, l1, l2⟩ := zip_lookup h3 hl
    exact ⟨a, C, dx, _, u, rfl, k1.s a _ h1, c, hn, l1, q u F1 H1 k1 l2⟩
theorem ep_fldO {n : Str} (c : Cls K C) (hn : NoAttr K C n) (hi : env[i]? = some (.ow t' (.ins C fs ds))) (hl : (fs.zip ds).lookup n = some d) : Ep P w K (tFld K (tVar i) n) env d := fun F0 H0 F H σ S Q q => by
  obtain ⟨a, ho, e1, _, g1, g2, g3, dx, vs, rfl, h2, h3⟩ := S.own hi
  obtain ⟨u, l1, l2⟩ := zip_lookup h3 hl
  exact ⟨_, e1, a, C, dx, _, u, rfl, g3, c, hn, l1, q u F H (Wk.refl S.sub) l2⟩
theorem putF_new {f : Str} {v : V} : ∀ {fs : List Str} {vs : List V}, fs.length = vs.length → fs.contains f = false → putF f v (fs.zip vs) = (fs ++ [f]).zip (vs ++ [v])
  | [], [], _, _ => rfl
  | g :: fs, u :: vs, h, hc => by
    rw [List.contains_cons, Bool.or_eq_false_iff] at hc
    have ne : ¬ g = f := fun e => by simp [e] at hc
    show (if g = f then _ else (g, u) :: putF f v (fs.zip vs)) = _
    rw [if_neg ne, putF_new (by simpa using h) hc.2]
    rfl
theorem se_fldN {n : Str} (c : Cls K C) (hn : NoAttr K C n) (hv : Ee P w K tv env d env1) (hi : env1[i]? = some (.ow t' (.ins C fs ds)) := by rfl) (hc : fs.contains n = false := by decide +kernel) (hz : fs.length < 900 := by exact Nat.lt_of_lt_of_le (Nat.lt_succ_self _) (Nat.le_of_ble_eq_true rfl)) :
    Se P w K (sFld K (tVar i) tv n) env (.nx (env1.set i (.ow t' (.ins C (fs ++ [n]) (ds ++ [d]))))) := fun F0 H0 F H σ D S p =>
  hv.2 F0 H0 F H σ S _ fun v F1 H1 k1 S1 r => by
    obtain ⟨a, ho, e1, _, g1, g2, g3, dx, vs, rfl, h2, h3⟩ := S1.own hi
    refine ⟨_, e1, a, C, dx, _, rfl, g3, c, hn, by rw [List.length_zip, ← h2]; omega, ?_⟩
    rw [putF_new h2 hc]
    exact p F1 _ σ k1.f (S1.mut hi e1 ⟨dx, vs ++ [v], rfl, by simp [h2], RpL.append h3 (RpL.cons r RpL.nil)⟩)
theorem zip_none {n : Str} : ∀ {fs : List Str} {vs : List V}, fs.contains n = false → (fs.zip vs).lookup n = none
  | [], _, _ => by simp
  | g :: fs, [], _ => by simp
  | g :: fs, u :: vs, h => by
    rw [List.contains_cons, Bool.or_eq_false_iff] at h
    rw [List.zip_cons_cons, List.lookup_cons, h.1]
    exact zip_none h.2
theorem ep_meth {E : XK} {m : Str} (h : Ep P w K ta env (.obj C fs ds)) (hA : EpA P w K t env es) (hf : R (.obj C fs ds :: es) (.d d)) (hm : fs.contains m = false := by decide +kernel) : Ep P w K (tMeth C m (spR P w K R) [] E ta t) env d := fun F0 H0 F H σ S Q q =>
  h F0 H0 F H σ S _ fun v F1 H1 k1 r => by
    have r' := r
    obtain ⟨a, dx, vs, rfl, h1, h2, h3⟩ := r
    exact ⟨a, dx, _, rfl, k1.s a _ h1, zip_none hm, hA F0 H0 F1 H1 σ (S.wk k1) _ fun us F2 H2 k2 r2 => ⟨F2, _, .d d, k2.s, by rw [List.append_nil]; exact ⟨_, _, rfl, r'.mono k2.f, r2⟩, hf, fun v F3 H3 k3 r3 => q v F3 H3 ((k1.trans k2).trans k3) r3⟩⟩
theorem po_meth {E : XK} {m : Str} {u : Ow} (h : Ep P w K ta env (.obj C fs ds)) (hA : EpA P w K t env es) (hf : R (.obj C fs ds :: es) (.o u)) (hm : fs.contains m = false := by decide +kernel) : EpO P w K (tMeth C m (spR P w K R) [] E ta t) env u := fun F0 H0 F H σ S Q q =>
  h F0 H0 F H σ S _ fun v F1 H1 k1 r => by
    have r' := r
    obtain ⟨a, dx, vs, rfl, h1, h2, h3⟩ := r
    exact ⟨a, dx, _, rfl, k1.s a _ h1, zip_none hm, hA F0 H0 F1 H1 σ (S.wk k1) _ fun us F2 H2 k2 r2 => ⟨F2, _, .o u, k2.s, by rw [List.append_nil]; exact ⟨_, _, rfl, r'.mono k2.f, r2⟩, hf, fun p o F3 H3 k3 n1 n2 h3 r3 => q p o F3 H3 ((k1.trans k2).trans k3) (none_sub (k1.trans k2).h n1) n2 h3 r3⟩⟩
theorem RpL.flatAll {F F' : Hp} : ∀ {ds : List Dt} {vs : List V}, RpL K F ds vs → ds.all flatD = true → RpL K F' ds vs
  | [], _, h, _ => h
  | d :: ds, vs, h, f => by
    obtain ⟨v, r, rfl, q, s⟩ := h
    rw [List.all_cons, Bool.and_eq_true] at f
    exact ⟨v, r, rfl, q.flat f.1, RpL.flatAll s f.2⟩
/-- self.m() of an object that is being made: it is lent -/
theorem po_methL {E : XK} {m : Str} {zs : List Dt} (hi : env[i]? = some (.ow t' (.ins C fs ds))) (hf : R [.obj C fs ds] (.o (.lst zs))) (hz : zs.all flatD = true) (hm : fs.contains m = false := by decide +kernel) : EpO P w K (tMeth C m (spR P w K R) [] E (tVar i) tNil) env (.lst zs) := fun F0 H0 F H σ S Q q => by
  obtain ⟨a, ho, e1, _, g1, g2, g3, g4⟩ := S.own hi
  have g4' := g4
  obtain ⟨dx, vs, rfl, h2, h3⟩ := g4
  have ex : Ex (L2.upd F a (.ins C dx (fs.zip vs))) H := fun b u z => by
    by_cases e : b = a
    · subst e
      rw [upd_same] at z
      rw [g3, ← z]
    · rw [upd_ne e] at z
      exact S.sub b u z
  refine ⟨_, e1, a, dx, _, rfl, g3, zip_none hm, L2.upd F a (.ins C dx (fs.zip vs)), [.obj C fs ds], .o (.lst zs), ex, ?_, hf, fun p o F3 H3 k3 n1 n2 h3 r3 => ?_⟩
  · exact ⟨_, [], rfl, (g4'.mono (Ex.new g1)).rp rfl upd_same, rfl⟩
  · obtain ⟨us, rfl, r4⟩ := r3
    exact q p _ F H3 ⟨Ex.refl F, k3.h, S.sub.trans k3.h, fun _ _ _ n => n⟩ n1 (none_sub S.sub n1) h3 ⟨us, rfl, RpL.flatAll r4 hz⟩
theorem se_raise2 {W : WX} {f1 f2 : Str} (h : EpA P w K tA env [d, e]) : Se P w K (fun _ σ H => tMkO C (spX2 C f1 f2) [] tA σ H fun cls d H' => W cls d σ H') env (.rz W ⟨C, [f2, f1], [e, d]⟩ env) := fun F0 H0 F H σ D S p =>
  h F0 H0 F H σ S _ fun vs F1 H1 k1 r => by
    obtain ⟨v1, r1, rfl, q1, v2, r2, rfl, q2, e3⟩ := r
    cases e3
    refine ⟨by show 2 ≤ 1000; decide, fun a ha => ⟨a, v1, v2, rfl, upd_same, fun dx H' hx ne h1 h2 hk => ⟨rfl, dx, _, h1, h2, ?_, ?_⟩⟩⟩
    · rw [upd_ne ne] at hx
      exact hx
    · have hx1 : H1 dx = none := by
        rw [upd_ne ne] at hx
        exact hx
      have S1 := S.wk k1
      have kk : Wk F1 H1 (L2.upd F1 dx (.xd [(f2, v2), (f1, v1)])) (L2.upd (del H' a) dx (.xd [(f2, v2), (f1, v1)])) := by
        refine ⟨Ex.new (none_sub k1.s hx1), fun b u z => ?_, fun b u z => ?_, fun b u z n => ?_⟩
        · have nb := ne_of_none z hx1
          have na := ne_of_none z ha
          rw [upd_ne nb, del_ne na, hk b na nb, upd_ne na]
          exact z
        · by_cases e : b = dx
          · subst e
            rw [upd_same] at z ⊢
            exact z
          · rw [upd_ne e] at z
            have zH := k1.s b u z
            have na := ne_of_none zH ha
            rw [upd_ne e, del_ne na, hk b na e, upd_ne na]
            exact zH
        · rw [upd_ne (ne_of_none z hx1)]
          exact n
      refine p (some dx) _ _ σ (k1.f.trans kk.f) (S1.wk kk) (.inr ⟨dx, [v2, v1], (fun z => nomatch z), rfl, rfl, ⟨v2, [v1], rfl, q2.mono kk.f, v1, [], rfl, q1.mono kk.f, rfl⟩, ?_⟩)
      exact upd_same
theorem tp_truO {xs : List Dt} (hi : env[i]? = some (.ow t' (.lst xs)) := by rfl) : Tp P w K (fun σ H Q => tVar i σ H fun x H' => ∃ k, TruV K x H' k ∧ Q k H') env (!xs.isEmpty) := fun F0 H0 F H σ S Q q => by
  obtain ⟨a, ho, e1, _, g1, g2, g3, vs, rfl, h3⟩ := S.own hi
  exact ⟨_, e1, !xs.isEmpty, .inl ⟨vs, SqL.of g3, isEmpty_rp h3⟩, q F H (Wk.refl S.sub)⟩
theorem ee_popO {xs : List Dt} (hi : env[i]? = some (.ow t' (.lst (xs ++ [d]))) := by rfl) : Ee P w K (tBM0 K "list" rPop (tVar i)) env d (env.set i (.ow t' (.lst xs))) := ⟨Sh.set hi, fun F0 H0 F H σ S Q q => by
  obtain ⟨a, ho, e1, _, g1, g2, g3, vs, rfl, h3⟩ := S.own hi
  have hl := h3.length
  simp at hl
  obtain ⟨v, h4, h5⟩ := h3.get (i := xs.length) (d := d) (by simp)
  refine ⟨_, e1, .inl ⟨rfl, vs, sq_of g3⟩, a, vs, v, rfl, rfl, g3, by rw [show vs.length - 1 = xs.length by omega]; exact h4, ?_⟩
  refine q v F _ (Wo.mut S hi e1) (S.mut hi e1 ⟨_, rfl, ?_⟩) h5
  have := h3.take xs.length
  rw [List.take_left' rfl] at this
  rw [List.dropLast_eq_take, show vs.length - 1 = xs.length by omega]
  exact this⟩
theorem po_set0 : EpO P w K (tCB (rSet0K P w) tNil) env (.set (fun _ => false) 0) := fun F0 H0 F H σ S Q q => ⟨rfl, fun p hp => q p _ F _ (Wk.own S.sub _ hp) hp (none_sub S.sub hp) upd_same ⟨0, Nat.le_refl _, rfl⟩⟩
theorem keys_of {F : Hp} : ∀ {ks : List Key} {vs : List V}, RpL K F (ks.map kD) vs → vs = ks.map kV
  | [], _, h => h
  | k :: ks, _, h => by
    obtain ⟨v, r, rfl, q, s⟩ := h
    rw [kD_rp q, keys_of s]
    rfl
theorem po_setL {ks : List Key} (h : EpA P w K tA env [.lst (ks.map kD)]) (hn : ks.length ≤ 4000) : EpO P w K (tCB (Qs.rSetL K P w) tA) env (.set (Qs.memK ks) ks.length) := fun F0 H0 F H σ S Q q =>
  h F0 H0 F H σ S _ fun vs F1 H1 k1 r => by
    obtain ⟨v, r1, rfl, ⟨a, us, rfl, h1, h2⟩, e⟩ := r
    cases e
    cases keys_of h2
    exact ⟨a, ks, rfl, ex_l k1.s h1, hn, fun p m hm hp => q p _ F1 _ (k1.trans (Wk.own k1.s _ hp)) (none_sub k1.h hp) (none_sub k1.s hp) upd_same ⟨m, hm, rfl⟩⟩
theorem ep_inS {k : Key} {S0 : Key → Bool} {m : Nat} (neg : Bool) (hk : Ep P w K te env (kD k)) (hi : env[i]? = some (.ow t' (.set S0 m)) := by rfl) : Ep P w K (tOp (rSInK P w neg) te (tVar i)) env (.bl (if neg then !S0 k else S0 k)) := fun F0 H0 F H σ S Q q =>
  hk F0 H0 F H σ S _ fun y F1 H1 k1 r1 => by
    obtain ⟨a, ho, e1, _, g1, g2, g3, c, hc, rfl⟩ := (S.wk k1).own hi
    rw [kD_rp r1]
    exact ⟨_, e1, k, a, S0, c, rfl, rfl, g3, q _ F1 H1 k1 rfl⟩
theorem se_addS {k : Key} {S0 : Key → Bool} {m : Nat} (hk : Ep P w K te env (kD k)) (hi : env[i]? = some (.ow t' (.set S0 m)) := by rfl) (hm : m < 4000) : Se P w K (tDrop (tSAddK P w (tVar i) (tCons te tNil))) env (.nx (env.set i (.ow t' (.set (fun j => S0 j || decide (j = k)) (m + 1))))) := fun F0 H0 F H σ D S p => by
  obtain ⟨a, ho, e1, _, g1, g2, g3, c, hc, rfl⟩ := S.own hi
  refine ⟨_, e1, ⟨a, S0, c, rfl, g3⟩, hk F0 H0 F H σ S _ fun y F1 H1 k1 r1 => ?_⟩
  rw [kD_rp r1]
  refine ⟨a, k, S0, c, rfl, rfl, k1.h a _ g3, by unfold scanBound; omega, ?_⟩
  exact p F1 _ σ k1.f ((S.wk k1).mut hi e1 ⟨_, by split <;> omega, rfl⟩)
end
end Qw
set_option maxHeartbeats 1000000
namespace Qw
open PySem PySem.Spec PyProof.Rows L2 Evl
open Pw (spX2 Xm Xm0)
section
variable {X : Cx} {x m : Str} {C : Addr} {ps : List Str} {sp : Sp} {k : Nat} {e o : Expr} {es : List Expr} {t : TA} {ta : TE} {p pos apos : Pos} {W : WX}
theorem pe_fx (F : Fx X.prog X.w X.K X.mg X.base k x ps sp) (hr : Room k X.A) (ha : PA X (e :: es) t) (hg : Gl X x := by rfl)
    (hdb : (x == ("__debug__" : Str)) = false := by decide) (he : starEach (e :: es) X.env = (false, eval e X.env) :: starEach es X.env := by rfl) (hpl : (backTo pos (starEach es X.env)).any (·.1) = false := by rfl) :
    PE X (.Call (.Name x p) (e :: es) [] pos) (tCall sp [] E0 t) := by
  obtain ⟨f, fd, h1, h2, h3, h4⟩ := F
  exact pe_call h4 hr hg h1 h2 h3 .nil passL ha hdb he hpl
theorem pe_fxS (F : Fx X.prog X.w X.K X.mg X.base k x ps sp) (hr : Room k X.A) (tk : Takes X W) (ha : PA X (e :: es) t) (hg : Gl X x := by rfl)
    (hdb : (x == ("__debug__" : Str)) = false := by decide) (he : starEach (e :: es) X.env = (false, eval e X.env) :: starEach es X.env := by rfl) (hpl : (backTo pos (starEach es X.env)).any (·.1) = false := by rfl) :
    PE X (.Call (.Name x p) (e :: es) [] pos) (tCallS sp (WE W) t) := by
  obtain ⟨f, fd, h1, h2, h3, h4⟩ := F
  exact pe_callS h4 hr hg h1 h2 h3 (fun σ => passAt tk σ) ha hdb he hpl
theorem pe_mx {pl : Sem Bool} (F : Mx X.prog X.w X.K X.mg X.base k C m ps sp) (c : Cls X.K C) (hr : Room k X.A) (ho : PE X o ta) (ha : PA X (e :: es) t)
    (hst : starEach (e :: es) X.env = (false, eval e X.env) :: starEach es X.env := by rfl) (hpl : (backTo pos (starEach es X.env)).any (·.1) = false := by rfl)
    (ht : eval (.Call (.Attribute o m apos) (e :: es) [] pos) X.env = (do
      let ov ← eval o X.env
      standAt apos.atName
      let (f, first) ← holding [ov] (getMethod ov m pl)
      callWith pos f first (backTo pos (starEach (e :: es) X.env)) (backToKw pos (keywordEach [] X.env))) := by rfl) :
    PE X (.Call (.Attribute o m apos) (e :: es) [] pos) (tMeth C m sp [] E0 ta t) := by
  obtain ⟨f, fd, h1, h3, h4⟩ := F
  exact pe_meth ho c h1 h4 hr h3 .nil passL ha hst hpl ht
theorem pe_mx0 {pl : Sem Bool} (F : Mx X.prog X.w X.K X.mg X.base k C m ps sp) (c : Cls X.K C) (hr : Room k X.A) (ho : PE X o ta)
    (ht : eval (.Call (.Attribute o m apos) [] [] pos) X.env = (do
      let ov ← eval o X.env
      standAt apos.atName
      let (f, first) ← holding [ov] (getMethod ov m pl)
      callWith pos f first (backTo pos (starEach [] X.env)) (backToKw pos (keywordEach [] X.env))) := by rfl) :
    PE X (.Call (.Attribute o m apos) [] [] pos) (tMeth C m sp [] E0 ta tNil) := by
  obtain ⟨f, fd, h1, h3, h4⟩ := F
  exact pe_meth0 ho c h1 h4 hr h3 .nil passL ht
theorem pe_ix2 (F : Ix X.prog X.w X.K X.mg X.base k C x ps sp) (hr : Room (k + 1) X.A) (ha : PA X (e :: es) t) (hg : Gl X x := by rfl)
    (hdb : (x == ("__debug__" : Str)) = false := by decide) (he : starEach (e :: es) X.env = (false, eval e X.env) :: starEach es X.env := by rfl) (hpl : (backTo pos (starEach es X.env)).any (·.1) = false := by rfl) :
    PE X (.Call (.Name x p) (e :: es) [] pos) (tMake C sp [] E0 t) := by
  obtain ⟨f, fd, h1, hm, h3, h4⟩ := F
  exact pe_make hm h4 hr hg h1 h3 .nil passL ha hdb he hpl
/-- the exception's making, of a class with the __init__ of two fields -/
theorem pm_2 {f1 f2 : Str} (G : Xm X.prog X.w X.K X.mg X.base x C (spX2 C f1 f2)) (hr : Room 2 X.A) (ha : PA X (e :: es) t) (hg : Gl X x := by rfl)
    (hdb : (x == ("__debug__" : Str)) = false := by decide) (he : starEach (e :: es) X.env = (false, eval e X.env) :: starEach es X.env := by rfl) (hpl : (backTo pos (starEach es X.env)).any (·.1) = false := by rfl) :
    PMk X (.Call (.Name x p) (e :: es) [] pos) (tMkO C (spX2 C f1 f2) [] t) := by
  obtain ⟨fI, fd, ps, h1, h2, h3, h4, h5, h6⟩ := G
  exact pmk_oex h2 h3 h4 h6 hr h5 .nil pass0 hg h1 ha hdb he hpl
theorem pset {i : Nat} {y : Str} {te : TE} {pos' : Pos} (hN : X.N.Nodup) (he : PE X e te) (hi : X.N[i]? = some y := by rfl) (hx : Loc X.env.scope y := by first | exact Or.inl rfl | exact Or.inr rfl) (hs : swapsWith e (some (.Name y pos')) pos.line X.env = pure false := by rfl)
    (hf : X.fn y = true ∨ X.env.scope.names.lookup y = some .local := by first | exact .inl rfl | exact .inr rfl | assumption) : PS X (.Assign [.Name y pos'] e pos) (tAsg te (gName i)) := ps_set hN hi hx he hs hf
theorem pgn {i : Nat} {y : Str} (hN : X.N.Nodup) (hi : X.N[i]? = some y := by rfl) (hx : Loc X.env.scope y := by first | exact Or.inl rfl | exact Or.inr rfl)
    (hf : X.fn y = true ∨ X.env.scope.names.lookup y = some .local := by first | exact .inl rfl | exact .inr rfl | assumption) : PG X (.Name y pos) (gName i) := pg_name hN hi hx hf
end
end Qw
set_option maxHeartbeats 1000000
namespace Qw
open PySem PySem.Spec PyProof.Rows L2 Evl
open Pw (Dt Rp RpL Wk none_sub get_set set_same set_ne R2d R1d RLd RLn Kq KqL truD isEmpty_rp flatD fl py pyL rangeD rangeD_len charsD wl_at Wl wl_range rangeD_nat find_split itemD spX2 Xm Xm0)
def iSeq (K : PySem.W.Frag) (tl : TE) : TI := fun σ H R => tl σ H fun x H1 => ∃ a, x = .ref a ∧ (((∃ xs, SqL K H1 a xs) ∧ R (Itl K a) H1) ∨ ((∃ xs, SqT K H1 a xs) ∧ R (Itt K a) H1))
theorem pie_new {X : Cx} {pins : List (Addr × Obj)} {σ : L2.St} {tg : Expr} {R : It → Hp → Prop} {H : Hp} {s : Shared} {J : It} {o : Obj} {tn : Nat → Heap → Prop} (I : Inv X pins σ H s) (t : Turn X.prog X.w X.K tg J [s.heap.objs.size] s.heap.objs.size tn)
    (h0 : tn 0 (s.heap.push o)) (q : R J H) : PIE X pins σ tg R (.ref s.heap.objs.size) { s with heap := s.heap.push o } := by
  refine ⟨_, _, tn, J, H, rfl, I.kept (t' := s.toks) fun b o e => Heap.get?_push_of_some _ e, t, h0, fun b hb => ?_, q⟩
  rw [List.mem_singleton] at hb
  subst hb
  exact I.fpOk (Nat.le_refl _) (I.hok.fresh (Nat.le_refl _))
theorem pi_seq {X : Cx} {tg l : Expr} {tl : TE} (hl : PE X l tl) : PI X tg l (iSeq X.K tl) := by
  refine ⟨fun pins s σ H R I h => thn (hl.run pins s σ H _ I h) fun v s1 hv => ?_⟩
  obtain ⟨x, H1, I1, r1, a, e, q⟩ := hv
  subst e
  cases r1
  rcases q with ⟨⟨xs, hq⟩, q⟩ | ⟨⟨xs, hq⟩, q⟩
  · obtain ⟨its, _, p, _⟩ := I1.list hq
    exact wpAny_pyIter_list p.isList (pie_new I1 (turn_list a _) ⟨_, Heap.get?_push_size _ rfl, rfl, rfl⟩ q)
  · obtain ⟨its, _, p, _⟩ := I1.tuple hq
    exact wpAny_pyIter_tuple (show s1.heap.IsTuple a its.toArray from p) (pie_new I1 (turn_tuple a _) ⟨_, Heap.get?_push_size _ rfl, rfl, rfl⟩ q)
section
variable {P : Program} {w : World} {K : PySem.W.Frag} {env : En} {tl : TE} {ds : List Dt}
theorem ip_seqL (h : Ep P w K tl env (.lst ds)) : Ip P w K (iSeq K tl) env ds := fun F0 H0 F H σ S R k =>
  h F0 H0 F H σ S _ fun v F1 H1 k1 r => by
    obtain ⟨a, vs, rfl, h1, h2⟩ := r
    exact ⟨a, rfl, .inl ⟨⟨vs, ex_l k1.s h1⟩, k _ F1 H1 k1 (wl_at h2 walk_list fun H e => ex_l e h1)⟩⟩
theorem ip_seqT (h : Ep P w K tl env (.tup ds)) : Ip P w K (iSeq K tl) env ds := fun F0 H0 F H σ S R k =>
  h F0 H0 F H σ S _ fun v F1 H1 k1 r => by
    obtain ⟨a, vs, rfl, h1, h2⟩ := r
    exact ⟨a, rfl, .inr ⟨⟨vs, ex_t k1.s h1⟩, k _ F1 H1 k1 (wl_at h2 walk_tup fun H e => ex_t e h1)⟩⟩
/-- tuple(xs) of a list or of a tuple -/
theorem ep_globT {a : Addr} {ds : List Dt} (h : ∀ F : Hp, Rp K F (.tup ds) (.ref a)) : Ep P w K (tC (.ref a)) env (.tup ds) := ep_c h
theorem rp_wr {a : Addr} {ds : List Dt} {vs : List V} (h : ∀ H, SqT K H a vs) (r : ∀ F, RpL K F ds vs) (F : Hp) : Rp K F (.tup ds) (.ref a) := ⟨a, vs, rfl, h F, r F⟩
theorem rpl_strs {F : Hp} : ∀ (xs : List Str), RpL K F (xs.map Dt.str) (xs.map V.str)
  | [] => rfl
  | x :: xs => ⟨_, _, rfl, rfl, rpl_strs xs⟩
end
end Qw
set_option maxHeartbeats 1000000
namespace Qw
open PySem PySem.Spec PyProof.Rows L2 Evl
open Pw (Dt Rp RpL Wk none_sub get_set set_same set_ne R2d R1d RLd RLn Kq KqL truD isEmpty_rp flatD fl py pyL rangeD rangeD_len charsD wl_at Wl wl_range rangeD_nat find_split itemD spX2 Xm Xm0)
section
variable {P : Program} {w : World} {K : PySem.W.Frag} {env env1 env2 env3 : En} {te tv : TE} {d e z : Dt} {g g1 : TG} {wi wi1 : TI} {tt tt1 : TT}
/-- what is made so far, in the list at D -/
structure Mk2 (P : Program) (w : World) (K : PySem.W.Frag) (F0 H0 F1 H1 : Hp) (σ : L2.St) (env : En) (D : Addr) (l : List Dt) (F2 H2 : Hp) (acc : List V) : Prop where
  f : Ex F1 F2
  d : F2 D = none
  a : H2 D = some (.lst acc)
  r : RpL K F2 l acc
  s : Sm P w K F0 H0 F2 H2 σ env
  h : Ex H1 H2
  n : ∀ a o, H1 a = some o → F1 a = none → F2 a = none
theorem Mk2.wk {F0 H0 F1 H1 F2 H2 F3 H3 : Hp} {σ : L2.St} {D : Addr} {l : List Dt} {acc : List V} (m : Mk2 P w K F0 H0 F1 H1 σ env D l F2 H2 acc) (k : Wk F2 H2 F3 H3) : Mk2 P w K F0 H0 F1 H1 σ env D l F3 H3 acc :=
  ⟨m.f.trans k.f, k.n D _ m.a m.d, k.h D _ m.a, m.r.mono k.f, m.s.wk k, m.h.trans k.h, fun a o h h' => k.n a o (m.h a o h) (m.n a o h h')⟩
theorem Mk2.add {F0 H0 F1 H1 F2 H2 : Hp} {σ : L2.St} {D : Addr} {l : List Dt} {acc : List V} {v : V} (m : Mk2 P w K F0 H0 F1 H1 σ env D l F2 H2 acc) (r : Rp K F2 d v) (n1 : H1 D = none) (n0 : H0 D = none) (nO : ¬ Own σ env D) : Mk2 P w K F0 H0 F1 H1 σ env D (l ++ [d]) F2 (L2.upd H2 D (.lst (acc ++ [v]))) (acc ++ [v]) :=
  ⟨m.f, m.d, upd_same, RpL.append m.r (RpL.cons r RpL.nil), m.s.upd _ m.d n0 nO, fun a o h => by
    rw [upd_ne (ne_of_none h n1)]
    exact m.h a o h, m.n⟩
/-- [e for x in xs for y in inner], its parts changing nothing, no tests -/
theorem np_lc2T {α : Type} {vs vs1 : List Nat} (xs : List α) (dec : α → Dt) (hI : Ip P w K wi env (xs.map dec)) (inner : α → List Dt) (hn : (xs.flatMap inner).length ≤ 40000) (v : Dt → Dt)
    (hs : ∀ (i : Nat) (a : α), xs[i]? = some a → ∃ e1, Gc P w K g vs (dec a) (wipeE env vs) e1 ∧ Ip P w K wi1 e1 (inner a) ∧ ∀ d ∈ inner a, ∃ e2, Gc P w K g1 vs1 d (wipeE e1 vs1) e2 ∧ Ep P w K te e2 (v d)) : EpN P w K (tLc2 wi g tYes wi1 g1 tYes te vs vs1) env ((xs.flatMap inner).map v) := fun F0 H0 F H σ S Q q =>
  hI F0 H0 F H σ S _ fun J F1 H1 k1 W D hD => by
    have nF : F1 D = none := none_sub k1.s hD
    have S1 := S.wk k1
    have n0 : H0 D = none := none_sub S1.g.h hD
    have nO : ¬ Own σ env D := S1.ownNew hD
    unfold Wl at W
    rw [List.length_map] at W
    refine ⟨fun i m H2 => m = xs.length - i ∧ i ≤ xs.length ∧ ∃ F2 acc, Mk2 P w K F0 H0 F1 H1 σ env D (((xs.take i).flatMap inner).map v) F2 H2 acc, ⟨xs.length, by simp, Nat.zero_le _, F1, [], Ex.refl F1, nF, upd_same, rfl, S1.upd _ nF n0 nO, Ex.new hD, fun _ _ _ n => n⟩, ?_⟩
    rintro i m H2 ⟨rfl, hi, F2, acc, M⟩
    by_cases hlt : i < xs.length
    · refine .inr ⟨W.goes i H2 hlt (M.f.trans M.s.sub), fun H' => ∃ F2 acc, Mk2 P w K F0 H0 F1 H1 σ env D (((xs.take (i + 1)).flatMap inner).map v) F2 H' acc, fun H' q => ⟨xs.length - (i + 1), by omega, rfl, hlt, q⟩, fun x H2' y => ?_⟩
      obtain ⟨F3, d', w3, hd', r3⟩ := W.yields i H2 x H2' hlt (M.f.trans M.s.sub) y F2 M.f M.s.sub
      obtain ⟨a, ha⟩ : ∃ a, xs[i]? = some a := ⟨_, List.getElem?_eq_getElem hlt⟩
      rw [List.getElem?_map, ha] at hd'
      cases hd'
      obtain ⟨e1, hg, hi1, he⟩ := hs i a ha
      have etake : (xs.take (i + 1)).flatMap inner = (xs.take i).flatMap inner ++ inner a := by
        rw [List.take_add_one, ha]
        simp
      have htot : ((xs.take (i + 1)).flatMap inner).length ≤ 40000 := by
        refine Nat.le_trans ?_ hn
        rw [show xs.flatMap inner = (xs.take (i + 1)).flatMap inner ++ (xs.drop (i + 1)).flatMap inner by rw [← List.flatMap_append, List.take_append_drop]]
        simp
      have M3 := M.wk w3
      refine hg F0 H0 F3 H2' σ x (M3.s.wipe vs) r3 _ fun σ2 hw hO S3 => ⟨hw, ?_⟩
      have nO2 : ¬ Own σ2 e1 D := fun z => nO (own_wipe (hO D z))
      show wi1 σ2 H2' _
      refine hi1 F0 H0 F3 H2' σ2 S3 _ fun J1 F4 H4 k4 W1 => ?_
      unfold Wl at W1
      have M4 := M3.wk k4
      refine ⟨fun j k H5 => k = (inner a).length - j ∧ j ≤ (inner a).length ∧ ∃ F5 acc, Ex F4 F5 ∧ Mk2 P w K F0 H0 F1 H1 σ env D (((xs.take i).flatMap inner).map v ++ ((inner a).take j).map v) F5 H5 acc ∧ Sm P w K F0 H0 F5 H5 σ2 e1, ⟨(inner a).length, by simp, Nat.zero_le _, F4, acc, Ex.refl F4, by simpa using M4, S3.wk k4⟩, ?_⟩
      rintro j k H5 ⟨rfl, hj, F5, acc5, x5, M5, S5⟩
      by_cases hl2 : j < (inner a).length
      · refine .inr ⟨W1.goes j H5 hl2 (x5.trans S5.sub), fun H' => ∃ F5 acc, Ex F4 F5 ∧ Mk2 P w K F0 H0 F1 H1 σ env D (((xs.take i).flatMap inner).map v ++ ((inner a).take (j + 1)).map v) F5 H' acc ∧ Sm P w K F0 H0 F5 H' σ2 e1, fun H' q => ⟨(inner a).length - (j + 1), by omega, rfl, hl2, q⟩, fun x2 H5' y2 => ?_⟩
        obtain ⟨F6, d2, w6, hd2, r6⟩ := W1.yields j H5 x2 H5' hl2 (x5.trans S5.sub) y2 F5 x5 S5.sub
        obtain ⟨e2, hg1, he1⟩ := he d2 (List.mem_of_getElem? hd2)
        have M6 := M5.wk w6
        refine hg1 F0 H0 F6 H5' σ2 x2 ((S5.wk w6).wipe vs1) r6 _ fun σ3 hw3 _ S6 => ⟨hw3, ?_⟩
        show te σ3 H5' _
        refine he1 F0 H0 F6 H5' σ3 S6 _ fun vv F7 H7 k7 r7 => ?_
        have M7 := M6.wk k7
        refine ⟨acc5, M7.a, ?_, F7, acc5 ++ [vv], (x5.trans w6.f).trans k7.f, ?_, ((S5.wk w6).wk k7).upd _ M7.d n0 nO2⟩
        · rw [← M7.r.length]
          have h1 : ((inner a).take j).length ≤ (inner a).length := by simp; omega
          rw [etake, List.length_append] at htot
          simp only [List.length_append, List.length_map]
          exact sz_lt (by omega)
        · have := M7.add r7 hD n0 nO
          rw [List.append_assoc] at this
          have e3 : (inner a).take (j + 1) = (inner a).take j ++ [d2] := by
            rw [List.take_add_one, hd2]
            rfl
          rw [e3, List.map_append]
          exact this
      · have e : j = (inner a).length := by omega
        subst e
        refine .inl ⟨W1.stops H5 (x5.trans S5.sub), F5, acc5, ?_⟩
        rw [etake, List.map_append]
        rw [List.take_length] at M5
        exact M5
    · have e : i = xs.length := by omega
      subst e
      rw [List.take_length] at M
      exact .inl ⟨W.stops H2 (M.f.trans M.s.sub), q D acc F2 H2 (k1.trans ⟨M.f, M.h, M.s.sub, M.n⟩) (none_sub k1.h hD) M.d M.a M.r⟩
theorem se_fldX {W : WX} {x : Xn} {tv ta : TE} {n : Str} (h : Er P w K W tv env x env1) : Se P w K (sFld K ta tv n) env (.rz W x env1) := fun F0 H0 F H σ D S p => h F0 H0 F H σ S _ fun od F1 H1 k S1 r => p od F1 H1 σ k S1 r
end
end Qw
set_option maxHeartbeats 1000000
namespace Qw
open PySem PySem.Spec PyProof.Rows L2 Evl
open Pw (Dt Rp RpL Wk none_sub get_set set_same set_ne R2d R1d RLd RLn Kq KqL truD isEmpty_rp flatD fl py pyL rangeD rangeD_len charsD wl_at Wl wl_range rangeD_nat find_split itemD spX2 Xm Xm0)
section
variable {P : Program} {w : World} {K : PySem.W.Frag} {env : En}
/-- {k: v, ..} as it is written -/
def EpP (P : Program) (w : World) (K : PySem.W.Frag) (env : En) : List (TE × TE) → KD → Prop
  | [], [] => True
  | t :: ts, p :: ps => Ep P w K t.1 env (kD p.1) ∧ Ep P w K t.2 env p.2 ∧ EpP P w K env ts ps
  | _, _ => False
theorem pairs_run {F0 H0 : Hp} {σ : L2.St} : ∀ {ts : List (TE × TE)} {kvs : KD} {F H : Hp} {Q : List (V × V) → Hp → Prop}, EpP P w K env ts kvs → Sm P w K F0 H0 F H σ env →
    (∀ (q : List (Key × V)) F' H', Wk F H F' H' → PrD K F' kvs q → Q (q.map fun kv => (kV kv.1, kv.2)) H') → tPairs ts σ H Q
  | [], [], F, H, Q, _, S, q => q [] F H (Wk.refl S.sub) ⟨rfl, rfl⟩
  | [], _ :: _, _, _, _, h, _, _ => h.elim
  | _ :: _, [], _, _, _, h, _, _ => h.elim
  | t :: ts, p :: ps, F, H, Q, h, S, q => by
    obtain ⟨h1, h2, h3⟩ := h
    refine h1 F0 H0 F H σ S _ fun x F1 H1 k1 r1 => h2 F0 H0 F1 H1 σ (S.wk k1) _ fun y F2 H2 k2 r2 => pairs_run h3 ((S.wk k1).wk k2) fun qs F3 H3 k3 r3 => ?_
    rw [kD_rp r1]
    exact q ((p.1, y) :: qs) F3 H3 ((k1.trans k2).trans k3) (.cons (r2.mono k3.f) r3)
theorem PrD.merge {F : Hp} : ∀ {more kvs : KD} {q ms : List (Key × V)}, PrD K F kvs q → PrD K F more ms → PrD K F (more.foldl (fun a p => putD a p.1 p.2) kvs) (mergeK q ms)
  | [], kvs, q, ms, h, hm => by
    rw [hm.nil]
    exact h
  | p :: more, kvs, q, ms, h, hm => by
    obtain ⟨v, ms', rfl, r, t⟩ := hm.inv
    exact PrD.merge (more := more) (kvs := putD kvs p.1 p.2) (q := putK q p.1 v) (ms := ms') (h.put p.1 r) t
theorem po_disp {ts : List (TE × TE)} {kvs : KD} (h : EpP P w K env ts kvs) (hn : kvs.length ≤ 15) : EpO P w K (tDisp ts) env (.dk (kvs.foldl (fun a p => putD a p.1 p.2) [])) := fun F0 H0 F H σ S Q q p hp => by
  have nF : F p = none := none_sub S.sub hp
  have n0 : H0 p = none := none_sub S.g.h hp
  have nO := S.ownNew hp
  refine pairs_run h (S.upd (.dK []) nF n0 nO) fun qs F1 H1 k1 r => ⟨k1.h p _ upd_same, qs, rfl, by rw [← r.length]; exact hn, ?_⟩
  have kk : Wk F H F1 (L2.upd H1 p (.dK (mergeK [] qs))) := by
    refine ⟨k1.f, fun a u z => ?_, fun a u z => ?_, fun a u z n => k1.n a u (by rw [upd_ne (ne_of_none z hp)]; exact z) n⟩
    · rw [upd_ne (ne_of_none z hp)]
      exact k1.h a u (by rw [upd_ne (ne_of_none z hp)]; exact z)
    · have : F1 p = none := k1.n p _ upd_same nF
      rw [upd_ne (ne_of_none z this)]
      exact k1.s a u z
  exact q p _ F1 _ kk hp (k1.n p _ upd_same nF) upd_same (odk_of (PrD.merge ⟨rfl, rfl⟩ r))
end
end Qw
set_option maxHeartbeats 400000
namespace Qw
open PySem PySem.Spec PyProof.Rows L2
open Evl hiding ea_cons
open Pw (Dt Rp RpL Wk R2d R1d RLd RLn Kq KqL)
def rCatR (K : PySem.W.Frag) : R2 := fun x y H Q => ∃ a b us vs, x = .ref a ∧ y = .ref b ∧ SqL K H a us ∧ SqL K H b vs ∧ us.length + vs.length ≤ sizeLine ∧ ∀ p, H p = none → Q (.ref p) (upd H p (.lst (us ++ vs)))
section
variable {X : Cx}
theorem op_catS : OpR X (binaryOp .Add) (rCatR X.K) := by
  intro pins s σ H x y v u Q I rx ry h
  obtain ⟨a, b, us, vs, rfl, rfl, ha, hb, hz, q⟩ := h
  cases rx
  cases ry
  obtain ⟨its, r1, p1, _⟩ := I.list ha
  obtain ⟨its2, r2, p2, _⟩ := I.list hb
  obtain ⟨⟨c1, d1, t1, l1⟩, g1, e1, n1, k1⟩ := p1.isList
  obtain ⟨⟨c2, d2, t2, l2⟩, g2, e2, n2, k2⟩ := p2.isList
  simp only at e1 k1 e2 k2
  subst e1 k1 e2 k2
  have hs : its.toArray.size + its2.toArray.size ≤ sizeLine := by
    rw [List.size_toArray, List.size_toArray, ← r1.length, ← r2.length]
    exact hz
  have eq : its.toArray ++ its2.toArray = (its ++ its2).toArray := by simp
  refine concat_meets ⟨_, g1, rfl⟩ ⟨_, g2, rfl⟩ noFill_list_add seq_list_add PySem.F.slot_list_add PySem.F.entry_list_add (PySem.F.args_list_add_2 _ _) (list_addW a b its.toArray its2.toArray n1 n2 d1 d2 l1 l2 hs) ⟨g1, g2, ?_⟩
  rw [eq]
  exact ⟨.ref _, _, I.lnew (t' := s.toks) (r1.append r2) (by rw [List.length_append]; exact hz), rfl, q _ I.fresh⟩
end
section
variable {K : PySem.W.Frag}
variable {P : Program} {w : World} {env : En} {ta tb : TE}
theorem RpL.rev {F : Hp} : ∀ {ds : List Dt} {us : List V}, RpL K F ds us → RpL K F ds.reverse us.reverse
  | [], us, h => by
    have : us = [] := by
      have := RpL.length h
      simpa using this.symm
    subst this
    exact h
  | d :: ds, us, h => by
    obtain ⟨v, vs, rfl, r, h⟩ := h
    rw [List.reverse_cons, List.reverse_cons]
    exact RpL.append (RpL.rev h) ⟨v, [], rfl, r, rfl⟩
theorem r2_cat {ds es : List Dt} (hl : ds.length + es.length ≤ 100000) : R2d K (rCatR K) (.lst ds) (.lst es) (.lst (ds ++ es)) := fun F H x y s r1 r2 Q q => by
  obtain ⟨a, us, rfl, g1, e1⟩ := r1
  obtain ⟨b, vs, rfl, g2, e2⟩ := r2
  refine ⟨a, b, us, vs, rfl, rfl, ex_l s g1, ex_l s g2, by rw [← e1.length, ← e2.length]; exact sz_of hl, fun p hp => ?_⟩
  have k : Wk F H (L2.upd F p (.lst (us ++ vs))) (L2.upd H p (.lst (us ++ vs))) := Wk.new s _ hp
  exact q (.ref p) _ _ k ⟨p, us ++ vs, rfl, .inl (.inl upd_same), (e1.append e2).mono k.f⟩
theorem ep_revL {ds : List Dt} (h : Ep P w K ta env (.lst ds)) : Ep P w K (tRevL K ta) env (.lst ds.reverse) := fun F0 H0 F H σ S Q q =>
  h F0 H0 F H σ S _ fun v F1 H1 k1 r => by
    obtain ⟨a, us, rfl, g1, e1⟩ := r
    refine ⟨a, us, rfl, ex_l k1.s g1, fun p hp => ?_⟩
    have k : Wk F1 H1 (L2.upd F1 p (.lst us.reverse)) (L2.upd H1 p (.lst us.reverse)) := Wk.new k1.s _ hp
    exact q (.ref p) _ _ (k1.trans k) ⟨p, us.reverse, rfl, .inl (.inl upd_same), (RpL.rev e1).mono k.f⟩
theorem rl_strI {i : Int} (hi : i.natAbs < 1000000) : RLd K (fun xs H Q => ∃ j, xs = [V.int j] ∧ j.natAbs.log2 < 1920 ∧ Q (.str (toString j)) H) [.int i] (.str (toString i)) := fun F H vs s r Q q => by
  obtain ⟨v, r1, rfl, e1, e2⟩ := r
  cases e1; cases e2
  refine ⟨i, rfl, ?_, q _ F H (Wk.refl s) rfl⟩
  have h1 : i.natAbs.log2 ≤ 20 := by
    by_cases z : i.natAbs = 0
    · rw [z]; decide
    · exact Nat.le_of_lt ((Nat.log2_lt z).mpr (by omega))
  omega
end
end Qw
set_option maxHeartbeats 400000
namespace Qw
open PySem PySem.Spec PyProof.Rows L2
open Evl hiding ea_cons
open Pw (Dt Rp RpL Wk R2d R1d RLd RLn Kq KqL)
end Qw
set_option maxHeartbeats 400000
namespace Qw
open PySem PySem.Spec PyProof.Rows L2
open Evl hiding ea_cons
open Pw (Dt Rp RpL Wk R2d R1d RLd RLn Kq KqL)
end Qw
set_option maxHeartbeats 1000000
namespace Qw
open PySem PySem.Spec PyProof.Rows L2
open Evl hiding ea_cons
open Pw (spX2)
theorem oexB_ok {K : PySem.W.Frag} {C : Addr} (h : oexB K C = true) : OexC K C := by
  unfold oexB at h
  obtain ⟨h0, h⟩ := Bool.and_eq_true_iff.mp h
  simp only [Bool.and_eq_true, decide_eq_true_eq] at h
  obtain ⟨h2, h3, h4, h5⟩ := h
  refine ⟨?_, h2, h3, h4, h5⟩
  split at h0
  · rename_i dd cd sl ho
    split at h0
    · rename_i C' bm k0 k1 k2 k3 n k5 hm hs
      simp only [Bool.and_eq_true, beq_iff_eq, Bool.not_eq_true'] at h0
      obtain ⟨rfl, rfl, hdel, hdict, hv⟩ := h0
      obtain ⟨nm, bs, mro, ns, qn, hd, sn, sub, ab, col, del⟩ := cd
      obtain ⟨l⟩ := sl
      dsimp only at hm hdel hdict hs
      subst hm hdel hdict hs
      exact ⟨nm, qn, ns, bs, bm, sn, sub, ab, col, dd, k0, k1, k2, k3, k5, ho, hv⟩
    · cases h0
  · cases h0
section
variable {P : Program} {w : World} {K : PySem.W.Frag} {mg : Str → Option Value} {base : Heap} {R : List Pw.Dt → Rs → Prop}
theorem init2c {C fI : Addr} {fd : FuncData} {qual f1 f2 g1 g2 : Str} {params : Arguments} {body : List Stmt} {scope : Scope} (F : FunD K "__init__" qual params body scope [] [] fI fd) (S : FnScope [("self" : Str), g1, g2] [("self" : Str), g1, g2] scope)
    (T : OexC K C) (n1 : PySem.W.findIn K (.ref C) f1 = some none) (n2 : PySem.W.findIn K (.ref C) f2 = some none)
    (hd : ∀ (cdv : Value) (A : Around) (outer : List Env) (s : Shared) (H : Hp) (E : XK), PSs (cxOf CX0 P w K mg base [("self" : Str), g1, g2] qual scope fI cdv A outer s H E) body (tSeq (tOst K f1 (tVar 0) (tVar 1)) (tOst K f2 (tVar 0) (tVar 2)))) : FnOk P w K mg base CX0 1 fI fd [("self" : Str), g1, g2] (spX2 C f1 f2) := by
  refine F.ok S (fun vs H Q E h => ?_) fun cdv A outer s H vs Q E hr h => ⟨_, hd cdv A outer s H E, ?_⟩
  · obtain ⟨a, v1, v2, rfl, _⟩ := h
    rfl
  · obtain ⟨a, v1, v2, rfl, ha, q⟩ := h
    refine ⟨v1, rfl, .ref a, rfl, a, C, rfl, T, n1, .inl ⟨ha, fun dx hx ne => ?_⟩⟩
    refine ⟨v2, rfl, .ref a, rfl, a, C, rfl, T, n2, .inr ⟨dx, [(f1, v1)], upd_same, ?_, (by show 1 ≤ 900; decide), ?_⟩⟩
    · rw [upd_ne ne, upd_same]
    · refine q dx _ hx ne ?_ upd_same fun b h1 h2 => ?_
      · rw [upd_ne ne.symm, upd_same]
      · rw [upd_ne h2, upd_ne h1, upd_ne h2]
/-- the law's own def: which def it is is told -/
def FxL (P : Program) (w : World) (K : PySem.W.Frag) (mg : Str → Option Value) (base : Heap) (k : Nat) (x : Str) (ps : List Str) (sp : Sp) (st : Stmt) : Prop :=
  ∃ f fd, mg x = some (.ref f) ∧ FunD K x x (defArgs st) (defBody st) (defScope st) [] [] f fd ∧ FnOk P w K mg base (L2.CX P w) k f fd ps sp
theorem FxL.of {x : Str} {ps N : List Str} {st : Stmt} {k : Nat} (D : Dx K mg x ps st) (S : FnScope N ps (defScope st)) (hl : ∀ ds r, R ds r → ds.length = ps.length)
    (hb : ∀ (f : Addr) (cdv : Value) (A : Around) (outer : List Env) (s : Shared) (H : Hp) (E : XK), Room k (A.deeper (envOfC x (defScope st) s.heap.objs.size f cdv)) →
      ∃ t, PSs (cxOf (L2.CX P w) P w K mg base N x (defScope st) f cdv A outer s H E).nox (defBody st) t ∧ ∀ ds r, R ds r → Does P w K E t (ds.map Sl.d ++ List.replicate (N.length - ds.length) Sl.u) r) :
    FxL P w K mg base (k + 1) x ps (spR P w K R) st := by
  obtain ⟨f, fd, h1, F, h3⟩ := D
  refine ⟨f, fd, h1, F, F.ok S (fun vs H Q E h => spR_len hl vs H Q E h) fun cdv A outer s H vs Q E hr h => ?_⟩
  obtain ⟨t, ht, hs⟩ := hb f cdv A outer s H E hr
  exact ⟨t, PSs.nox ht, run_r h hs⟩
end
end Qw
set_option maxHeartbeats 400000
namespace Qw
open PySem PySem.Spec PyProof.Rows L2
end Qw
set_option maxHeartbeats 4000000
namespace L2
open PySem PySem.Spec PyProof.Rows
end L2
set_option maxHeartbeats 1000000
namespace Mw
open PySem PySem.Spec PyProof.Rows L2 Qw
open Evl hiding ea_cons
open Pw (Dt Rp RpL Wk R2d R1d RLd RLn Kq KqL none_sub)
/-- an exception: its class by name -/
structure Exn where
  C : Str
  fs : List Str
  ds : List Dt
def Exn.xn (K : PySem.W.Frag) (e : Exn) : Xn := ⟨He.ga K e.C, e.fs, e.ds⟩
inductive R (α : Type) where
  | ok (a : α) | ex (x : Exn) | no
namespace R
variable {α β γ σ : Type}
def bind : R α → (α → R β) → R β
  | .ok a, f => f a
  | .ex x, _ => .ex x
  | .no, _ => .no
def bind2 : R (α × σ) → (α → σ → R β) → R β
  | .ok p, f => f p.1 p.2
  | .ex x, _ => .ex x
  | .no, _ => .no
def nox : R α → R α
  | .ok a => .ok a
  | _ => .no
def need (c : Prop) [Decidable c] (m : R α) : R α := if c then m else .no
@[simp] theorem bind_ok {a : α} {f : α → R β} : (R.ok a).bind f = f a := rfl
@[simp] theorem bind_ex {x : Exn} {f : α → R β} : (R.ex x).bind f = .ex x := rfl
@[simp] theorem bind_no {f : α → R β} : (R.no).bind f = .no := rfl
@[simp] theorem bind2_ok {a : α} {s : σ} {f : α → σ → R β} : (R.ok (a, s)).bind2 f = f a s := rfl
@[simp] theorem nox_ok {a : α} : (R.ok a).nox = .ok a := rfl
theorem bind_of {m : R α} {f : α → R β} {b : β} (h : m.bind f = .ok b) : ∃ a, m = .ok a ∧ f a = .ok b := by
  cases m with
  | ok a => exact ⟨a, rfl, h⟩
  | ex x => cases h
  | no => cases h
theorem need_pos {c : Prop} [Decidable c] {m : R α} (h : c) : need c m = m := if_pos h
end R
/-- how a block ends -/
inductive Ctl (σ τ β : Type) where
  | nx (s : σ) | ct (t : τ) | bk (t : τ) | rt (b : β)
namespace R
variable {α β γ σ σ' τ : Type}
/-- then .. -/
def bindC : R (Ctl σ τ β) → (σ → R (Ctl σ' τ β)) → R (Ctl σ' τ β)
  | .ok (.nx s), f => f s
  | .ok (.ct t), _ => .ok (.ct t)
  | .ok (.bk t), _ => .ok (.bk t)
  | .ok (.rt b), _ => .ok (.rt b)
  | .ex x, _ => .ex x
  | .no, _ => .no
@[simp] theorem bindC_nx {s : σ} {f : σ → R (Ctl σ' τ β)} : (R.ok (.nx s)).bindC f = f s := rfl
@[simp] theorem bindC_rt {b : β} {f : σ → R (Ctl σ' τ β)} : (R.ok (.rt b)).bindC f = .ok (.rt b) := rfl
@[simp] theorem bindC_ct {t : τ} {f : σ → R (Ctl σ' τ β)} : (R.ok (.ct t)).bindC f = .ok (.ct t) := rfl
@[simp] theorem bindC_bk {t : τ} {f : σ → R (Ctl σ' τ β)} : (R.ok (.bk t)).bindC f = .ok (.bk t) := rfl
@[simp] theorem bindC_ex {x : Exn} {f : σ → R (Ctl σ' τ β)} : (R.ex x).bindC f = .ex x := rfl
/-- what a def's body gives -/
def fin : R (Ctl σ τ β) → R β
  | .ok (.rt b) => .ok b
  | .ex x => .ex x
  | _ => .no
/-- .. a def that gives None -/
def finU : R (Ctl σ τ Unit) → R Unit
  | .ok (.rt b) => .ok b
  | .ok (.nx _) => .ok ()
  | .ex x => .ex x
  | _ => .no
@[simp] theorem fin_rt {b : β} : (R.ok (.rt b) : R (Ctl σ τ β)).fin = .ok b := rfl
@[simp] theorem fin_ex {x : Exn} : (R.ex x : R (Ctl σ τ β)).fin = .ex x := rfl
@[simp] theorem finU_rt {b : Unit} : (R.ok (.rt b) : R (Ctl σ τ Unit)).finU = .ok () := rfl
@[simp] theorem finU_nx {s : σ} : (R.ok (.nx s) : R (Ctl σ τ Unit)).finU = .ok () := rfl
@[simp] theorem finU_ex {x : Exn} : (R.ex x : R (Ctl σ τ Unit)).finU = .ex x := rfl
/-- a for -/
def forR : List α → σ → (σ → α → R (Ctl σ σ β)) → R (Ctl σ τ β)
  | [], s, _ => .ok (.nx s)
  | a :: r, s, f => match f s a with
    | .ok (.nx s') => forR r s' f
    | .ok (.ct s') => forR r s' f
    | .ok (.bk s') => .ok (.nx s')
    | .ok (.rt b) => .ok (.rt b)
    | .ex x => .ex x
    | .no => .no
/-- [f a for a in xs if t a] -/
def lcG : List α → (α → R Bool) → (α → R β) → R (List β)
  | [], _, _ => .ok []
  | a :: r, t, f => (t a).bind fun b => if b = true then (f a).bind fun y => (lcG r t f).bind fun l => .ok (y :: l) else lcG r t f
def lcR (xs : List α) (t : α → R Bool) (f : α → R β) : R (List β) := need (xs.length ≤ 40000) (lcG xs t f)
/-- .. where the parts are known on the list alone -/
theorem lcG_on {p : α → Bool} {v : α → β} {t : α → R Bool} {f : α → R β} : ∀ {xs : List α}, (∀ a ∈ xs, t a = .ok (p a)) → (∀ a ∈ xs, p a = true → f a = .ok (v a)) → lcG xs t f = .ok ((xs.filter p).map v)
  | [], _, _ => rfl
  | a :: r, ht, hf => by
    unfold lcG
    rw [lcG_on (fun b hb => ht b (List.mem_cons_of_mem _ hb)) (fun b hb => hf b (List.mem_cons_of_mem _ hb)), ht a List.mem_cons_self]
    cases h : p a
    · simp [h]
    · simp [h, hf a List.mem_cons_self h]
theorem lcR_on {p : α → Bool} {v : α → β} {t : α → R Bool} {f : α → R β} {xs : List α} (h : xs.length ≤ 40000) (ht : ∀ a ∈ xs, t a = .ok (p a)) (hf : ∀ a ∈ xs, p a = true → f a = .ok (v a)) : lcR xs t f = .ok ((xs.filter p).map v) := by
  rw [lcR, need_pos h, lcG_on ht hf]
theorem lcR_mapOn {v : α → β} {f : α → R β} {xs : List α} (h : xs.length ≤ 40000) (hf : ∀ a ∈ xs, f a = .ok (v a)) : lcR xs (fun _ => .ok true) f = .ok (xs.map v) := by
  rw [lcR_on (p := fun _ => true) h (fun _ _ => rfl) fun a ha _ => hf a ha, List.filter_eq_self.mpr (fun _ _ => rfl)]
theorem forR_nx {f : σ → α → R (Ctl σ σ β)} {s s' : σ} {a : α} {r : List α} (h : f s a = .ok (.nx s')) : (forR (a :: r) s f : R (Ctl σ τ β)) = forR r s' f := by
  rw [forR, h]
theorem forR_ct {f : σ → α → R (Ctl σ σ β)} {s s' : σ} {a : α} {r : List α} (h : f s a = .ok (.ct s')) : (forR (a :: r) s f : R (Ctl σ τ β)) = forR r s' f := by
  rw [forR, h]
theorem forR_bk {f : σ → α → R (Ctl σ σ β)} {s s' : σ} {a : α} {r : List α} (h : f s a = .ok (.bk s')) : (forR (a :: r) s f : R (Ctl σ τ β)) = .ok (.nx s') := by
  rw [forR, h]
theorem forR_rt {f : σ → α → R (Ctl σ σ β)} {s : σ} {a : α} {b : β} {r : List α} (h : f s a = .ok (.rt b)) : (forR (a :: r) s f : R (Ctl σ τ β)) = .ok (.rt b) := by
  rw [forR, h]
end R
abbrev eI : Int → Dt := Dt.int
abbrev eB : Bool → Dt := Dt.bl
abbrev eS : Str → Dt := Dt.str
abbrev eU : Unit → Dt := fun _ => .non
section
variable {α β γ δ : Type}
abbrev eL (e : α → Dt) : List α → Dt := fun xs => .lst (xs.map e)
abbrev eT (e : α → Dt) : List α → Dt := fun xs => .tup (xs.map e)
abbrev eP2 (e1 : α → Dt) (e2 : β → Dt) : α × β → Dt := fun p => .tup [e1 p.1, e2 p.2]
abbrev eP3 (e1 : α → Dt) (e2 : β → Dt) (e3 : γ → Dt) : α × β × γ → Dt := fun p => .tup [e1 p.1, e2 p.2.1, e3 p.2.2]
abbrev eP4 (e1 : α → Dt) (e2 : β → Dt) (e3 : γ → Dt) (e4 : δ → Dt) : α × β × γ × δ → Dt := fun p => .tup [e1 p.1, e2 p.2.1, e3 p.2.2.1, e4 p.2.2.2]
def eO (e : α → Dt) : Option α → Dt
  | none => .non
  | some a => e a
abbrev oL (e : α → Dt) : List α → Ow := fun xs => .lst (xs.map e)
end
section
variable (P : Program) (w : World) (K : PySem.W.Frag) (W : WX) (eX : En)
def ErA (ta : TA) (env : En) (x : Xn) (env' : En) : Prop := ∀ F0 H0 F H σ, Sm P w K F0 H0 F H σ env → ∀ Q : List V → Hp → Prop, (∀ od F' H', Ex F F' → Sm P w K F0 H0 F' H' σ env' → XnOk K F' x od → W (.ref x.C) od σ H') → ta σ H Q
def ErT (tt : TT) (env : En) (x : Xn) (env' : En) : Prop := ∀ F0 H0 F H σ, Sm P w K F0 H0 F H σ env → ∀ Q : Bool → Hp → Prop, (∀ od F' H', Ex F F' → Sm P w K F0 H0 F' H' σ env' → XnOk K F' x od → W (.ref x.C) od σ H') → tt σ H Q
def ErI (wi : TI) (env : En) (x : Xn) (env' : En) : Prop := ∀ F0 H0 F H σ, Sm P w K F0 H0 F H σ env → ∀ Q : It → Hp → Prop, (∀ od F' H', Ex F F' → Sm P w K F0 H0 F' H' σ env' → XnOk K F' x od → W (.ref x.C) od σ H') → wi σ H Q
variable {α σ : Type}
/-- pure -/
def Xp (te : TE) (env : En) (m : R α) (d : α → Dt) : Prop := match m with
  | .ok a => Ep P w K te env (d a)
  | .ex x => Er P w K W te env (x.xn K) eX
  | .no => True
def Xo (te : TE) (env : En) (m : R α) (u : α → Ow) : Prop := match m with
  | .ok a => EpO P w K te env (u a)
  | .ex x => Er P w K W te env (x.xn K) eX
  | .no => True
def Xa (ta : TA) (env : En) (m : R α) (d : α → List Dt) : Prop := match m with
  | .ok a => EpA P w K ta env (d a)
  | .ex x => ErA P w K W ta env (x.xn K) eX
  | .no => True
def Xt (tt : TT) (env : En) (m : R Bool) : Prop := match m with
  | .ok b => Tp P w K tt env b
  | .ex x => ErT P w K W tt env (x.xn K) eX
  | .no => True
def Xi (wi : TI) (env : En) (m : R (List α)) (d : α → Dt) : Prop := match m with
  | .ok xs => Ip P w K wi env (xs.map d)
  | .ex x => ErI P w K W wi env (x.xn K) eX
  | .no => True
/-- a block: eN its end, eL the loop around it, out what it gives -/
def Sx {τ β : Type} (eL : τ → En) (out : β → Out) (s : TS) (env : En) (m : R (Ctl σ τ β)) (eN : σ → En) : Prop := match m with
  | .ok (.nx a) => Se P w K s env (.nx (eN a))
  | .ok (.ct t) => Se P w K s env (.ct (eL t))
  | .ok (.bk t) => Se P w K s env (.bk (eL t))
  | .ok (.rt b) => Se P w K s env (out b)
  | .ex x => Se P w K s env (.rz W (x.xn K) eX)
  | .no => True
/-- operations -/
def R2m {γ : Type} (r : R2) (d e : Dt) (m : R γ) (z : γ → Dt) : Prop := match m with
  | .ok c => R2d K r d e (z c)
  | .ex _ => False
  | .no => True
end
section
variable {P : Program} {w : World} {K : PySem.W.Frag} {W : WX} {eX : En} {α β γ δ σ σ' τ ρ : Type} {env env1 env2 : En} {ta tb te tc : TE} {tt tu : TT} {tA tr : TA} {wi : TI} {r : R2}
theorem er_op1 {x : Xn} (h : Er P w K W ta env x eX) : Er P w K W (tOp r ta tb) env x eX := fun F0 H0 F H σ S Q q => h F0 H0 F H σ S _ q
theorem er_op2 {x : Xn} {d : Dt} (ha : Ep P w K ta env d) (h : Er P w K W tb env x eX) : Er P w K W (tOp r ta tb) env x eX := fun F0 H0 F H σ S Q q => ha F0 H0 F H σ S _ fun v F1 H1 k _ => h F0 H0 F1 H1 σ (S.wk k) _ fun od F2 H2 e => q od F2 H2 (k.f.trans e)
theorem er_cb {rr : List V → Hp → VK → Prop} {x : Xn} (h : ErA P w K W tA env x eX) : Er P w K W (tCB rr tA) env x eX := fun F0 H0 F H σ S Q q => h F0 H0 F H σ S _ q
theorem er_lst {x : Xn} (h : ErA P w K W tA env x eX) : Er P w K W (tLst tA) env x eX := fun F0 H0 F H σ S Q q => h F0 H0 F H σ S _ q
theorem er_call {sp : Sp} {dvs : List V} {E : XK} {x : Xn} (h : ErA P w K W tA env x eX) : Er P w K W (tCall sp dvs E tA) env x eX := fun F0 H0 F H σ S Q q => h F0 H0 F H σ S _ q
theorem era_1 {x : Xn} (h : Er P w K W te env x eX) : ErA P w K W (tCons te tr) env x eX := fun F0 H0 F H σ S Q q => h F0 H0 F H σ S _ q
theorem era_2 {x : Xn} {d : Dt} (ha : Ep P w K te env d) (h : ErA P w K W tr env x eX) : ErA P w K W (tCons te tr) env x eX := fun F0 H0 F H σ S Q q => ha F0 H0 F H σ S _ fun v F1 H1 k _ => h F0 H0 F1 H1 σ (S.wk k) _ fun od F2 H2 e => q od F2 H2 (k.f.trans e)
theorem ert_test {x : Xn} (h : Er P w K W te env x eX) : ErT P w K W (tTest te) env x eX := fun F0 H0 F H σ S Q q => h F0 H0 F H σ S _ q
theorem ert_or1 {x : Xn} (h : ErT P w K W tt env x eX) : ErT P w K W (tOr tt tu) env x eX := fun F0 H0 F H σ S Q q => h F0 H0 F H σ S _ q
theorem ert_or2 {x : Xn} (ha : Tp P w K tt env false) (h : ErT P w K W tu env x eX) : ErT P w K W (tOr tt tu) env x eX := fun F0 H0 F H σ S Q q => ha F0 H0 F H σ S _ fun F1 H1 k => by
  show tu σ H1 Q
  exact h F0 H0 F1 H1 σ (S.wk k) _ fun od F2 H2 e => q od F2 H2 (k.f.trans e)
section
variable {da : α → Dt} {db : β → Dt} {dz : γ → Dt}
theorem xp_v {v : α} (h : Ep P w K te env (da v)) : Xp P w K W eX te env (.ok v) da := h
theorem xp_opVV {d e : Dt} {m : R γ} (ha : Ep P w K ta env d) (hb : Ep P w K tb env e) (hr : R2m K r d e m dz) : Xp P w K W eX (tOp r ta tb) env m dz := by
  cases m with
  | ok c => exact ep_op ha hb hr
  | ex x => exact False.elim hr
  | no => trivial
theorem xp_opMV {e : Dt} {ma : R α} {m : α → R γ} (ha : Xp P w K W eX ta env ma da) (hb : Ep P w K tb env e) (hr : ∀ a, R2m K r (da a) e (m a) dz) : Xp P w K W eX (tOp r ta tb) env (ma.bind m) dz := by
  cases ma with
  | ok a => exact xp_opVV ha hb (hr a)
  | ex x => exact er_op1 ha
  | no => trivial
theorem xp_opVM {d : Dt} {mb : R β} {m : β → R γ} (ha : Ep P w K ta env d) (hb : Xp P w K W eX tb env mb db) (hr : ∀ b, R2m K r d (db b) (m b) dz) : Xp P w K W eX (tOp r ta tb) env (mb.bind m) dz := by
  cases mb with
  | ok b => exact xp_opVV ha hb (hr b)
  | ex x => exact er_op2 ha hb
  | no => trivial
theorem xp_opMM {ma : R α} {mb : R β} {m : α → β → R γ} (ha : Xp P w K W eX ta env ma da) (hb : Xp P w K W eX tb env mb db) (hr : ∀ a b, R2m K r (da a) (db b) (m a b) dz) : Xp P w K W eX (tOp r ta tb) env (ma.bind fun a => mb.bind fun b => m a b) dz := by
  cases ma with
  | ok a => exact xp_opVM (m := fun b => m a b) ha hb (hr a)
  | ex x => exact er_op1 ha
  | no => trivial
theorem xa_v {ds : α → List Dt} {v : α} (h : EpA P w K tA env (ds v)) : Xa P w K W eX tA env (.ok v) ds := h
theorem xa_nil : Xa P w K W eX tNil env (.ok ()) (fun _ => []) := ap_nil
theorem xa_consM {ds : β → List Dt} {ma : R α} {mr : R β} (ha : Xp P w K W eX te env ma da) (hr : Xa P w K W eX tr env mr ds) : Xa P w K W eX (tCons te tr) env (ma.bind fun a => mr.bind fun r => .ok (a, r)) (fun p => da p.1 :: ds p.2) := by
  cases ma with
  | ok a =>
    cases mr with
    | ok r => exact ap_cons ha hr
    | ex x => exact era_2 ha hr
    | no => trivial
  | ex x => exact era_1 ha
  | no => trivial
theorem xo_lst {ds : α → List Dt} {ma : R α} {f : α → γ} {u : γ → Ow} (h : Xa P w K W eX tA env ma ds) (hd : ∀ a, Ow.lst (ds a) = u (f a)) (hl : ∀ a, (ds a).length ≤ 100000 := by exact fun _ => Nat.le_of_ble_eq_true rfl) : Xo P w K W eX (tLst tA) env (ma.bind fun a => .ok (f a)) u := by
  cases ma with
  | ok a =>
    show EpO P w K (tLst tA) env (u (f a))
    rw [← hd a]
    exact po_n (np_lst h (hl a))
  | ex x => exact er_lst h
  | no => trivial
/-- a new thing as data -/
theorem xp_o {m : R α} {u : α → Ow} (h : Xo P w K W eX te env m u) (hd : ∀ a, (u a).dt = some (da a)) : Xp P w K W eX te env m da := by
  cases m with
  | ok a => exact po_dt h (hd a)
  | ex x => exact h
  | no => trivial
/-- the promise of a def with a mirror -/
def Got (K : PySem.W.Frag) (m : R β) (er : β → Rs) (r : Rs) : Prop := match m with
  | .ok b => r = er b
  | .ex x => r = .x (x.xn K)
  | .no => False
def RF (K : PySem.W.Frag) (ea : α → List Dt) (m : α → R β) (er : β → Rs) (ds : List Dt) (r : Rs) : Prop := ∃ a, ds = ea a ∧ Got K (m a) er r
theorem xp_call {E : XK} {ea : α → List Dt} {m : α → R γ} {er : γ → Rs} {ma : R α} (h : Xa P w K W eX tA env ma ea) (hd : ∀ c, er c = .d (dz c)) : Xp P w K W eX (tCall (spR P w K (RF K ea m er)) [] E tA) env (ma.bind fun a => (m a).nox) dz := by
  cases ma with
  | ok a =>
    show Xp P w K W eX _ env (m a).nox dz
    cases e : m a with
    | ok c => exact ep_call h ⟨a, rfl, by rw [e]; exact (hd c).symm⟩
    | ex x => trivial
    | no => trivial
  | ex x => exact er_call h
  | no => trivial
end
theorem xt_v {b : Bool} (h : Tp P w K tt env b) : Xt P w K W eX tt env (.ok b) := h
theorem xt_test {m : R Bool} (h : Xp P w K W eX te env m eB) : Xt P w K W eX (tTest te) env m := by
  cases m with
  | ok b => exact tp_test h
  | ex x => exact ert_test h
  | no => trivial
theorem xt_or {m n : R Bool} (h : Xt P w K W eX tt env m) (h2 : Xt P w K W eX tu env n) : Xt P w K W eX (tOr tt tu) env (m.bind fun b => if b = true then .ok true else n) := by
  cases m with
  | ok b =>
    cases b with
    | false =>
      cases n with
      | ok c => exact tp_or (a := false) h fun _ => h2
      | ex x => exact ert_or2 h h2
      | no => trivial
    | true => exact tp_or (a := true) (b := true) h (fun z => nomatch z)
  | ex x => exact ert_or1 h
  | no => trivial
end
end Mw
set_option maxHeartbeats 1000000
namespace Mw
open PySem PySem.Spec PyProof.Rows L2 Qw
open Evl hiding ea_cons
open Pw (Dt Rp RpL Wk R2d R1d RLd RLn Kq KqL none_sub spX2)
section
variable {P : Program} {w : World} {K : PySem.W.Frag} {W : WX} {eX : En} {α β γ δ σ σ' τ ρ : Type} {env env1 env2 : En} {ta tb te tc : TE} {tt tu : TT} {tA tr : TA} {wi : TI} {r : R2} {g : TG}
variable {eL : τ → En} {out : ρ → Out} {s s1 s2 s3 : TS} {eN : σ → En} {d : α → Dt} {u : α → Ow}
theorem sx_end {v : σ} (h : Le env (eN v)) : Sx P w K W eX eL out tNext env (.ok (.nx v)) eN := se_le se_next h
theorem sx_last {m : R (Ctl σ τ ρ)} (h : Sx P w K W eX eL out (tSeq s tNext) env m eN) : Sx P w K W eX eL out s env m eN := h
theorem sx_skip {m : R (Ctl σ τ ρ)} (h : Sx P w K W eX eL out s env m eN) : Sx P w K W eX eL out (tSeq tNext s) env m eN := h
theorem sx_seqE {m : R (Ctl σ τ ρ)} (h1 : Se P w K s1 env (.nx env1)) (h2 : Sx P w K W eX eL out s2 env1 m eN) : Sx P w K W eX eL out (tSeq s1 s2) env m eN := by
  cases m with
  | ok c => cases c <;> exact se_seq h1 h2
  | ex x => exact se_seq h1 h2
  | no => trivial
theorem sx_freeze {m : R (Ctl σ τ ρ)} (i : Nat) {t : Option Addr} {v : Ow} {dd : Dt} (hi : env[i]? = some (.ow t v)) (hd : v.dt = some dd) (h2 : Sx P w K W eX eL out s (env.set i (.d dd)) m eN) : Sx P w K W eX eL out s env m eN := by
  cases m with
  | ok c => cases c <;> exact se_freeze hi hd h2
  | ex x => exact se_freeze hi hd h2
  | no => trivial
theorem sx_asg {i : Nat} {m : R α} {k : α → R (Ctl σ τ ρ)} (h : Xp P w K W eX te env m d) (hk : ∀ a, Sx P w K W eX eL out s2 (env.set i (.d (d a))) (k a) eN) : Sx P w K W eX eL out (tSeq (tAsg te (gName i)) s2) env (m.bind k) eN := by
  cases m with
  | ok a => exact sx_seqE (se_asg (ee_p h)) (hk a)
  | ex x => exact se_seqF (se_asgX h)
  | no => trivial
theorem sx_asgG {m : R α} {k : α → R (Ctl σ τ ρ)} {en : α → En} (h : Xp P w K W eX te env m d) (hg : ∀ a, Ge P w K g (d a) env (en a)) (hk : ∀ a, Sx P w K W eX eL out s2 (en a) (k a) eN) : Sx P w K W eX eL out (tSeq (tAsg te g) s2) env (m.bind k) eN := by
  cases m with
  | ok a => exact sx_seqE (se_asgG (ee_p h) (hg a)) (hk a)
  | ex x => exact se_seqF (se_asgX h)
  | no => trivial
theorem sx_own {i : Nat} {m : R α} {k : α → R (Ctl σ τ ρ)} (h : Xo P w K W eX te env m u) (hk : ∀ a, Sx P w K W eX eL out s2 (env.set i (.ow none (u a))) (k a) eN) : Sx P w K W eX eL out (tSeq (tAsg te (gName i)) s2) env (m.bind k) eN := by
  cases m with
  | ok a => exact sx_seqE (se_own (eo_p h)) (hk a)
  | ex x => exact se_seqF (se_asgX h)
  | no => trivial
theorem sx_drop {m : R α} {k : α → R (Ctl σ τ ρ)} (h : Xp P w K W eX te env m d) (hk : ∀ a, Sx P w K W eX eL out s2 env (k a) eN) : Sx P w K W eX eL out (tSeq (tDrop te) s2) env (m.bind k) eN := by
  cases m with
  | ok a => exact sx_seqE (se_drop (ee_p h)) (hk a)
  | ex x => exact se_seqF (se_dropX h)
  | no => trivial
theorem sx_ret {d : ρ → Dt} {m : R ρ} (h : Xp P w K W eX te env m d) (ho : ∀ b, out b = .rt (d b)) : Sx P w K W eX eL out (tSeq (tRet te) s2) env (m.bind fun a => .ok (.rt a)) eN := by
  cases m with
  | ok a =>
    show Se P w K _ env (out a)
    rw [ho a]
    exact se_seqF (se_ret (ee_p h))
  | ex x => exact se_seqF (se_retX h)
  | no => trivial
theorem sx_if {m : R Bool} {m1 m2 : R (Ctl σ τ ρ)} (h : Xt P w K W eX tt env m) (h1 : Sx P w K W eX eL out (tSeq s1 s3) env m1 eN) (h2 : Sx P w K W eX eL out (tSeq s2 s3) env m2 eN) : Sx P w K W eX eL out (tSeq (tIfS tt s1 s2) s3) env (m.bind fun b => if b = true then m1 else m2) eN := by
  cases m with
  | ok b =>
    have key : ∀ {o : Out}, (b = true → Se P w K (tSeq s1 s3) env o) → (b = false → Se P w K (tSeq s2 s3) env o) → Se P w K (tSeq (tIfS tt s1 s2) s3) env o := fun a1 a2 => se_ifq (te_p h) a1 a2
    cases b with
    | true =>
      show Sx P w K W eX eL out _ env m1 eN
      cases m1 with
      | ok c => cases c <;> exact key (fun _ => h1) (fun z => nomatch z)
      | ex x => exact key (fun _ => h1) (fun z => nomatch z)
      | no => trivial
    | false =>
      show Sx P w K W eX eL out _ env m2 eN
      cases m2 with
      | ok c => cases c <;> exact key (fun z => nomatch z) (fun _ => h2)
      | ex x => exact key (fun z => nomatch z) (fun _ => h2)
      | no => trivial
  | ex x => exact fun F0 H0 F H σ D S p => h F0 H0 F H σ S _ fun od F1 H1 e S1 => p od F1 H1 σ e S1
  | no => trivial
theorem sx_seq {eM : σ' → En} {m1 : R (Ctl σ' τ ρ)} {k : σ' → R (Ctl σ τ ρ)} (hf : ∀ b, (out b).fin = true) (h1 : Sx P w K W eX eL out s1 env m1 eM) (hk : ∀ v, Sx P w K W eX eL out s2 (eM v) (k v) eN) : Sx P w K W eX eL out (tSeq s1 s2) env (m1.bindC k) eN := by
  cases m1 with
  | ok c =>
    cases c with
    | nx v => exact sx_seqE h1 (hk v)
    | ct v => exact se_seqF h1
    | bk v => exact se_seqF h1
    | rt b => exact se_seqF h1 (hf b)
  | ex x => exact se_seqF h1
  | no => trivial
/-- an if without an end in it: its branches join -/
theorem sx_ifj {eM : σ' → En} {m : R Bool} {m1 m2 : R (Ctl σ' τ ρ)} {k : σ' → R (Ctl σ τ ρ)} (hf : ∀ b, (out b).fin = true) (h : Xt P w K W eX tt env m) (h1 : Sx P w K W eX eL out s1 env m1 eM) (h2 : Sx P w K W eX eL out s2 env m2 eM) (hk : ∀ v, Sx P w K W eX eL out s3 (eM v) (k v) eN) : Sx P w K W eX eL out (tSeq (tIfS tt s1 s2) s3) env ((m.bind fun b => if b = true then m1 else m2).bindC k) eN :=
  sx_seq hf (sx_last (sx_if h h1 h2)) hk
def stepR (f : σ → α → R (Ctl σ σ ρ)) (v : σ) (a : α) : σ := match f v a with
  | .ok (.nx v') => v'
  | .ok (.ct v') => v'
  | _ => v
theorem stepR_eq {f : σ → α → R (Ctl σ σ ρ)} {v v' : σ} {a : α} (h : f v a = .ok (.nx v') ∨ f v a = .ok (.ct v')) : stepR f v a = v' := by
  unfold stepR
  rcases h with h | h <;> rw [h]
def goesR : R (Ctl σ σ ρ) → Bool
  | .ok (.nx _) => true
  | .ok (.ct _) => true
  | _ => false
theorem forR_runs (f : σ → α → R (Ctl σ σ ρ)) : ∀ (xs : List α) (v : σ),
    ((∀ (i : Nat) a, xs[i]? = some a → goesR (f ((xs.take i).foldl (stepR f) v) a) = true) ∧ (R.forR xs v f : R (Ctl σ τ ρ)) = .ok (.nx (xs.foldl (stepR f) v))) ∨
    ∃ (m : Nat) (a : α), xs[m]? = some a ∧ (∀ (i : Nat) b, i < m → xs[i]? = some b → goesR (f ((xs.take i).foldl (stepR f) v) b) = true) ∧
      ((∃ v', f ((xs.take m).foldl (stepR f) v) a = .ok (.bk v') ∧ (R.forR xs v f : R (Ctl σ τ ρ)) = .ok (.nx v')) ∨ (∃ b, f ((xs.take m).foldl (stepR f) v) a = .ok (.rt b) ∧ (R.forR xs v f : R (Ctl σ τ ρ)) = .ok (.rt b)) ∨
        (∃ x, f ((xs.take m).foldl (stepR f) v) a = .ex x ∧ (R.forR xs v f : R (Ctl σ τ ρ)) = .ex x) ∨ (R.forR xs v f : R (Ctl σ τ ρ)) = .no)
  | [], v => .inl ⟨fun i a h => by simp at h, rfl⟩
  | a :: xs, v => by
    have on : ∀ v', f v a = .ok (.nx v') ∨ f v a = .ok (.ct v') → (R.forR (a :: xs) v f : R (Ctl σ τ ρ)) = R.forR xs v' f ∧ stepR f v a = v' ∧ goesR (f v a) = true := by
      rintro v' (h | h)
      · exact ⟨R.forR_nx h, by rw [stepR, h], by rw [h]; rfl⟩
      · exact ⟨R.forR_ct h, by rw [stepR, h], by rw [h]; rfl⟩
    by_cases hx : ∃ v', f v a = .ok (.nx v') ∨ f v a = .ok (.ct v')
    · obtain ⟨v', h⟩ := hx
      obtain ⟨e1, e2, e3⟩ := on v' h
      have ih := forR_runs f xs v'
      rw [e1]
      rcases ih with ⟨h1, h2⟩ | ⟨m, b, h1, h2, h3⟩
      · refine Or.inl ⟨fun i b hb => ?_, by rw [h2, List.foldl_cons, e2]⟩
        cases i with
        | zero => cases hb; exact e3
        | succ i =>
          rw [List.take_succ_cons, List.foldl_cons, e2]
          exact h1 i b hb
      · refine Or.inr ⟨m + 1, b, h1, fun i c hi hc => ?_, by rw [List.take_succ_cons, List.foldl_cons, e2]; exact h3⟩
        cases i with
        | zero => cases hc; exact e3
        | succ i =>
          rw [List.take_succ_cons, List.foldl_cons, e2]
          exact h2 i c (by omega) hc
    cases e : f v a with
    | ok c =>
      cases c with
      | nx v' => exact absurd ⟨v', .inl e⟩ hx
      | ct v' => exact absurd ⟨v', .inr e⟩ hx
      | bk v' => exact .inr ⟨0, a, rfl, fun i b hi => absurd hi (Nat.not_lt_zero i), .inl ⟨v', e, R.forR_bk e⟩⟩
      | rt b => exact .inr ⟨0, a, rfl, fun i b hi => absurd hi (Nat.not_lt_zero i), .inr (.inl ⟨b, e, R.forR_rt e⟩)⟩
    | ex x => exact .inr ⟨0, a, rfl, fun i b hi => absurd hi (Nat.not_lt_zero i), .inr (.inr (.inl ⟨x, e, by rw [R.forR, e]⟩))⟩
    | no => exact .inr ⟨0, a, rfl, fun i b hi => absurd hi (Nat.not_lt_zero i), .inr (.inr (.inr (by rw [R.forR, e])))⟩
/-- what may be given out of a loop -/
def OutOk (out : ρ → Out) : Prop := ∀ b, (out b).fin = true ∧ (∀ e, out b ≠ .bk e) ∧ (∀ e, out b ≠ .ct e)
theorem sx_goes {tb : TS} {e1 : En} {eS : σ → En} {c : R (Ctl σ σ ρ)} {v : σ} (hg : goesR c = true) (h : Sx P w K W eX eS out tb e1 c eS) (hv : ∀ v', c = .ok (.nx v') ∨ c = .ok (.ct v') → v = v') : Se P w K tb e1 (.nc (eS v)) := by
  cases c with
  | ok c =>
    cases c with
    | nx v' => rw [hv v' (.inl rfl)]; exact se_nc h
    | ct v' => rw [hv v' (.inr rfl)]; exact se_cc h
    | bk v' => cases hg
    | rt b => cases hg
  | ex x => cases hg
  | no => cases hg
theorem sx_forC {tb : TS} {eS : σ → En} {f : σ → α → R (Ctl σ σ ρ)} {v0 : σ} {xs : List α} (ho : OutOk out) (hI : Ie P w K wi env (xs.map d) env1) (h0 : Le env1 (eS v0)) (hb : ∀ v a, ∃ e1, Ge P w K g (d a) (eS v) e1 ∧ Sx P w K W eX eS out tb e1 (f v a) eS) : Sx P w K W eX eL out (tFor wi g tb) env (R.forR xs v0 f) eS := by
  have hgo : ∀ (i : Nat) (a : α), xs[i]? = some a → goesR (f ((xs.take i).foldl (stepR f) v0) a) = true → ∃ e1, Ge P w K g (d a) (eS ((xs.take i).foldl (stepR f) v0)) e1 ∧ Se P w K tb e1 (.nc (eS ((xs.take (i + 1)).foldl (stepR f) v0))) := by
    intro i a ha hg
    obtain ⟨e1, g1, b1⟩ := hb ((xs.take i).foldl (stepR f) v0) a
    refine ⟨e1, g1, sx_goes hg b1 fun v' h => ?_⟩
    rw [List.take_add_one, ha, List.foldl_append]
    exact stepR_eq h
  rcases forR_runs (τ := τ) f xs v0 with ⟨h1, h2⟩ | ⟨m, a, hm, h1, h2⟩
  · rw [h2]
    refine se_for hI (fun i => eS ((xs.take i).foldl (stepR f) v0)) xs.length (by simp) h0 (fun i dd hi hd => ?_) (.inl ⟨by simp, by simp⟩)
    rw [List.getElem?_map] at hd
    obtain ⟨a, ha, rfl⟩ := Option.map_eq_some_iff.mp hd
    exact hgo i a ha (h1 i a ha)
  · have hlt : m < xs.length := (List.getElem?_eq_some_iff.mp hm).1
    obtain ⟨e1, g1, b1⟩ := hb ((xs.take m).foldl (stepR f) v0) a
    have fin : ∀ {o : Out}, ((o.fin = true ∧ (∀ e, o ≠ .bk e) ∧ (∀ e, o ≠ .ct e) ∧ Se P w K tb e1 o) ∨ ∃ e, o = .nx e ∧ Se P w K tb e1 (.bk e)) → Se P w K (tFor wi g tb) env o := fun hz =>
      se_for hI (fun i => eS ((xs.take i).foldl (stepR f) v0)) m (by simp; omega) h0 (fun i dd hi hd => by
        rw [List.getElem?_map] at hd
        obtain ⟨a, ha, rfl⟩ := Option.map_eq_some_iff.mp hd
        exact hgo i a ha (h1 i a hi ha)) (.inr ⟨d a, e1, by rw [List.getElem?_map, hm]; rfl, g1, hz⟩)
    rcases h2 with ⟨v', e, h2⟩ | ⟨b, e, h2⟩ | ⟨x, e, h2⟩ | h2
    · rw [h2]
      rw [e] at b1
      exact fin (.inr ⟨_, rfl, b1⟩)
    · rw [h2]
      rw [e] at b1
      exact fin (.inl ⟨(ho b).1, (ho b).2.1, (ho b).2.2, b1⟩)
    · rw [h2]
      rw [e] at b1
      exact fin (.inl ⟨rfl, (fun _ z => nomatch z), (fun _ z => nomatch z), b1⟩)
    · rw [h2]
      trivial
theorem sx_for {tb : TS} {eS : σ' → En} {f : σ' → α → R (Ctl σ' σ' ρ)} {v0 : σ'} {mi : R (List α)} {k : σ' → R (Ctl σ τ ρ)} (ho : OutOk out) (hI : Xi P w K W eX wi env mi d) (h0 : Le env (eS v0)) (hb : ∀ v a, ∃ e1, Ge P w K g (d a) (eS v) e1 ∧ Sx P w K W eX eS out tb e1 (f v a) eS) (hk : ∀ v, Sx P w K W eX eL out s2 (eS v) (k v) eN) : Sx P w K W eX eL out (tSeq (tFor wi g tb) s2) env (mi.bind fun xs => (R.forR xs v0 f).bindC k) eN := by
  cases mi with
  | ok xs => exact sx_seq (fun b => (ho b).1) (sx_forC ho (ie_p hI) h0 hb) hk
  | ex x => exact se_seqF (fun F0 H0 F H σ D S p => hI F0 H0 F H σ S _ fun od F1 H1 e S1 => p od F1 H1 σ e S1)
  | no => trivial
end
end Mw
set_option maxHeartbeats 1000000
namespace Mw
open PySem PySem.Spec PyProof.Rows L2 Qw
open Evl hiding ea_cons
open Pw (Dt Rp RpL Wk R2d R1d RLd RLn Kq KqL none_sub spX2 get_set set_same set_ne)
section
variable {P : Program} {w : World} {K : PySem.W.Frag} {W : WX} {eX : En} {α β γ δ σ σ' τ ρ : Type} {env env1 env2 : En} {ta tb te tc : TE} {tt tu : TT} {tA tr : TA} {wi : TI} {r : R2} {g : TG}
variable {da : α → Dt} {db : β → Dt} {dz : γ → Dt} {en en1 en2 : σ → En}
variable {eL : τ → En} {out : ρ → Out} {s s1 s2 s3 : TS} {eN : σ' → En} {u : α → Ow}
theorem sx_app {i : Nat} {t' : Option Addr} {xs : List Dt} {m : R α} {k : α → R (Ctl σ' τ ρ)} (hi : env[i]? = some (.ow t' (.lst xs))) (h : Xp P w K W eX te env m da) (hk : ∀ a, Sx P w K W eX eL out s2 (env.set i (.ow t' (.lst (xs ++ [da a])))) (k a) eN) : Sx P w K W eX eL out (tSeq (tDrop (tBM K "list" rAppend (tVar i) (tCons te tNil))) s2) env (m.bind fun a => R.need (xs.length < 100000) (k a)) eN := by
  cases m with
  | ok a =>
    show Sx P w K W eX eL out _ env (R.need _ (k a)) eN
    by_cases hz : xs.length < 100000
    · rw [R.need_pos hz]
      exact sx_seqE (se_app hi (ee_p h) hi hz) (hk a)
    · rw [R.need, if_neg hz]
      trivial
  | ex x =>
    refine se_seqF (se_dropX (x := x.xn K) fun F0 H0 F H σ S Q q => ?_)
    obtain ⟨p0, o0, e0, g0, g1, g2, g3, vs, rfl, g4⟩ := S.own hi
    exact ⟨_, e0, .inl ⟨rfl, vs, sq_of g3⟩, h F0 H0 F H σ S _ q⟩
  | no => trivial
end
end Mw
set_option maxHeartbeats 1000000
namespace Mw
open PySem PySem.Spec PyProof.Rows L2 Qw
open Evl hiding ea_cons
open Pw (Dt Rp RpL Wk R2d R1d RLd RLn Kq KqL none_sub spX2 get_set set_same set_ne rangeD rangeD_len)
namespace R
variable {α β γ σ : Type}
theorem lcG_inv {e : β → Dt} {t : α → R Bool} {f : α → R β} : ∀ {xs : List α} {l : List β}, lcG xs t f = .ok l →
    (∀ a ∈ xs, ∃ b, t a = .ok b ∧ (b = true → ∃ y, f a = .ok y)) ∧ l.map e = (xs.filter fun a => match t a with | .ok b => b | _ => false).map fun a => match f a with | .ok y => e y | _ => .non
  | [], l, h => by
    cases h
    exact ⟨fun a h => by simp at h, rfl⟩
  | a :: xs, l, h => by
    unfold lcG at h
    obtain ⟨b, hb, h⟩ := bind_of h
    cases b with
    | true =>
      simp only [if_true] at h
      obtain ⟨y, hy, h⟩ := bind_of h
      obtain ⟨l', hl, h⟩ := bind_of h
      cases h
      obtain ⟨i1, i2⟩ := lcG_inv (e := e) hl
      refine ⟨fun c hc => ?_, ?_⟩
      · rcases List.mem_cons.mp hc with rfl | hc
        · exact ⟨true, hb, fun _ => ⟨y, hy⟩⟩
        · exact i1 c hc
      · rw [List.filter_cons_of_pos (by rw [hb]), List.map_cons, List.map_cons, i2, hy]
    | false =>
      simp only [Bool.false_eq_true, if_false] at h
      obtain ⟨i1, i2⟩ := lcG_inv (e := e) h
      refine ⟨fun c hc => ?_, ?_⟩
      · rcases List.mem_cons.mp hc with rfl | hc
        · exact ⟨false, hb, fun z => nomatch z⟩
        · exact i1 c hc
      · rw [List.filter_cons_of_neg (by rw [hb]; decide), i2]
end R
section
variable {P : Program} {w : World} {K : PySem.W.Frag} {W : WX} {eX : En} {α β γ δ σ σ' τ ρ : Type} {env env1 env2 : En} {ta tb te tc : TE} {tt tu : TT} {tA tr : TA} {wi : TI} {r : R2} {g : TG}
variable {d : α → Dt} {e : β → Dt} {en : σ → En}
theorem xo_lc {vs : List Nat} {mi : R (List α)} {t : α → R Bool} {f : α → R β} (hI : Xi P w K W eX wi env mi d)
    (hs : ∀ a, ∃ e1, Gc P w K g vs (d a) (wipeE env vs) e1 ∧ Xt P w K W eX tt e1 (t a) ∧ Xp P w K W eX te e1 (f a) e) : Xo P w K W eX (tLc wi g tt te vs) env (mi.bind fun xs => (R.lcR xs t f).nox) (oL e) := by
  cases mi with
  | ok xs =>
    show Xo P w K W eX _ env ((R.lcR xs t f).nox) (oL e)
    cases hr : R.lcR xs t f with
    | ok l =>
      unfold R.lcR R.need at hr
      by_cases hn : xs.length ≤ 40000
      · rw [if_pos hn] at hr
        obtain ⟨h1, h2⟩ := R.lcG_inv (e := e) hr
        show EpO P w K _ env (Ow.lst (l.map e))
        rw [h2]
        refine po_n (np_lcT xs d hI hn _ _ fun i a ha => ?_)
        obtain ⟨e1, g1, t1, f1⟩ := hs a
        obtain ⟨b, hb, hf⟩ := h1 a (List.mem_of_getElem? ha)
        rw [hb] at t1
        refine ⟨e1, g1, by rw [hb]; exact t1, fun hp => ?_⟩
        rw [hb] at hp
        obtain ⟨y, hy⟩ := hf hp
        rw [hy] at f1 ⊢
        exact f1
      · rw [if_neg hn] at hr
        cases hr
    | ex x => trivial
    | no => trivial
  | ex x => exact fun F0 H0 F H σ S Q q => hI F0 H0 F H σ S _ q
  | no => trivial
theorem Sh.nil : Sh [] [] := Sh.refl
theorem Sh.s {a b : En} {s : Sl} (h : Sh a b) : Sh (s :: a) (s :: b) := ⟨by simp [h.1], fun i t z => by
  cases i with
  | zero => exact .inl (by simpa using z)
  | succ i => exact h.2 i t (by simpa using z)⟩
theorem Sh.o {a b : En} {t : Option Addr} {u u' : Ow} (h : Sh a b) : Sh (.ow t u :: a) (.ow t u' :: b) := ⟨by simp [h.1], fun i s z => by
  cases i with
  | zero => exact .inr ⟨t, u, u', by simpa using z.symm, rfl⟩
  | succ i => exact h.2 i s (by simpa using z)⟩
def rangeI (lo : Int) (n : Nat) : List Int := (List.range n).map fun i : Nat => lo + i
theorem rangeI_map (lo : Int) (n : Nat) : (rangeI lo n).map eI = rangeD lo n := by
  unfold rangeI rangeD
  rw [List.map_map]
  rfl
theorem xi_rng1 {ma : R α} {n : α → Int} (h : Xa P w K W eX tA env ma (fun a => [.int (n a)])) : Xi P w K W eX (iRng1 tA) env (ma.bind fun a => R.need (-100000 ≤ n a ∧ n a ≤ 100000) (.ok (rangeI 0 (n a).toNat))) eI := by
  cases ma with
  | ok a =>
    show Xi P w K W eX _ env (R.need _ _) eI
    by_cases hn : -100000 ≤ n a ∧ n a ≤ 100000
    · rw [R.need_pos hn]
      show Ip P w K _ env ((rangeI 0 (n a).toNat).map eI)
      rw [rangeI_map]
      exact ip_rng1 h hn
    · rw [R.need, if_neg hn]
      trivial
  | ex x => exact fun F0 H0 F H σ S Q q => h F0 H0 F H σ S _ q
  | no => trivial
theorem xi_list {e : α → Dt} {m : R (List α)} (h : Xp P w K W eX te env m (eL e)) : Xi P w K W eX (iList K te) env m e := by
  cases m with
  | ok xs => exact ip_list h
  | ex x => exact fun F0 H0 F H σ S Q q => h F0 H0 F H σ S _ q
  | no => trivial
theorem xi_tup {e : α → Dt} {m : R (List α)} (h : Xp P w K W eX te env m (eT e)) : Xi P w K W eX (iTup K te) env m e := by
  cases m with
  | ok xs => exact ip_tup h
  | ex x => exact fun F0 H0 F H σ S Q q => h F0 H0 F H σ S _ q
  | no => trivial
end
end Mw
set_option maxHeartbeats 1000000
namespace Mw
open PySem PySem.Spec PyProof.Rows L2 Qw
open Evl hiding ea_cons
open Pw (Dt Rp RpL Wk R2d R1d RLd RLn Kq KqL none_sub spX2 get_set set_same set_ne rangeD rangeD_len py pyL fl flatD)
section
variable {P : Program} {w : World} {K : PySem.W.Frag} {W : WX} {eX : En} {α β γ δ σ σ' τ ρ : Type} {env env1 env2 : En} {ta tb te tc : TE} {tt tu : TT} {tA tr : TA} {wi : TI} {r : R2} {g : TG}
theorem r2_is {d e z z' : Dt} (h : R2d K r d e z) (q : z = z') : R2d K r d e z' := q ▸ h
theorem rm_v {d e : Dt} {c : γ} {z : γ → Dt} (h : R2d K r d e (z c)) : R2m K r d e (.ok c) z := h
theorem rm_need {d e : Dt} {c : Prop} [Decidable c] {m : R γ} {z : γ → Dt} (h : c → R2m K r d e m z) : R2m K r d e (R.need c m) z := by
  unfold R.need
  split
  · exact h (by assumption)
  · trivial
/-- a list or tuple whose items are known one by one -/
theorem r2_ixTn {ds : List Dt} {z : Dt} (j : Nat) (h : ds[j]? = some z) : R2d K (rIxT K) (.tup ds) (.int (j : Int)) z := Pw.r2_ixT (Pw.ixN_at (by omega) (by have := (List.getElem?_eq_some_iff.mp h).1; omega)) (by simpa using h)
def catR (xs ys : List α) : R (List α) := R.need (xs.length + ys.length ≤ 100000) (.ok (xs ++ ys))
theorem catR_ok {xs ys : List α} (h : xs.length + ys.length ≤ 100000) : catR xs ys = .ok (xs ++ ys) := R.need_pos h
theorem rm_catL {e : α → Dt} {xs ys : List α} : R2m K (rCatR K) (eL e xs) (eL e ys) (catR xs ys) (eL e) := rm_need fun h => by
  show R2d K _ _ _ (.lst ((xs ++ ys).map e))
  rw [List.map_append]
  exact r2_cat (by simpa using h)
instance {xs : List α} {k : Int} : Decidable (xs ≠ [] ∧ 0 ≤ k ∧ k ≤ 1000 ∧ xs.length ≤ 1000) := by
  cases xs with
  | nil => exact isFalse fun h => h.1 rfl
  | cons a xs =>
    by_cases h : 0 ≤ k ∧ k ≤ 1000 ∧ (a :: xs).length ≤ 1000
    · exact isTrue ⟨by simp, h⟩
    · exact isFalse fun z => h z.2
theorem pyL_map {e : α → Dt} {p : α → PyData} (h : ∀ a, py (e a) = some (p a)) : ∀ xs : List α, pyL (xs.map e) = some (xs.map p)
  | [] => rfl
  | a :: xs => by
    show (match py (e a), pyL (xs.map e) with | some p, some ps => some (p :: ps) | _, _ => none) = _
    rw [h a, pyL_map h xs]
    rfl
theorem depthAll_map {p : α → PyData} {n : Nat} (h : ∀ a, (p a).depth ≤ n) : ∀ xs : List α, PyData.depthAll (xs.map p) ≤ n
  | [] => Nat.zero_le _
  | a :: xs => by
    show max (PyData.depth (p a)) (PyData.depthAll (xs.map p)) ≤ n
    have := depthAll_map h xs
    have := h a
    omega
theorem eqvAll_map {p : α → PyData} (h : ∀ a b, PyData.eqv (p a) (p b) = true ↔ a = b) : ∀ xs ys : List α, PyData.eqvAll (xs.map p) (ys.map p) = true ↔ xs = ys
  | [], [] => by simp [PyData.eqvAll]
  | [], _ :: _ => by simp [PyData.eqvAll]
  | _ :: _, [] => by simp [PyData.eqvAll]
  | a :: xs, b :: ys => by
    show (PyData.eqv (p a) (p b) && PyData.eqvAll (xs.map p) (ys.map p)) = true ↔ _
    rw [Bool.and_eq_true, h a b, eqvAll_map h xs ys]
    simp
def outD (d : β → Dt) : β → Out := fun b => .rt (d b)
theorem outD_ok {d : β → Dt} : OutOk (outD d) := fun b => ⟨rfl, (fun _ z => nomatch z), (fun _ z => nomatch z)⟩
abbrev WD (E : XK) : WX := fun cls d _ H => E cls d H
theorem does_d {E : XK} {s : TS} {d : β → Dt} {env : En} {m : R (Ctl σ τ β)} {eL : τ → En} {eN : σ → En} {rr : Rs} (h : Sx P w K (WD E) eX eL (outD d) s env m eN) (hr : Got K m.fin (fun b => .d (d b)) rr) : Does P w K E s env rr := by
  cases m with
  | ok c =>
    cases c with
    | rt b => rw [show rr = .d (d b) from hr]; exact .inl h
    | nx v => exact False.elim hr
    | ct v => exact False.elim hr
    | bk v => exact False.elim hr
  | ex x => rw [show rr = .x (x.xn K) from hr]; exact ⟨eX, h⟩
  | no => exact False.elim hr
end
end Mw
set_option maxHeartbeats 1000000
namespace Mw
open PySem PySem.Spec PyProof.Rows L2 Qw
open Evl hiding ea_cons
open Pw (Dt Rp RpL Wk R2d R1d RLd RLn Kq KqL none_sub spX2 get_set set_same set_ne rangeD rangeD_len py pyL fl flatD)
section
variable {P : Program} {w : World} {K : PySem.W.Frag} {W : WX} {eX : En} {α β γ δ σ σ' τ ρ : Type} {env env1 env2 : En} {ta tb te tc : TE} {tt tu : TT} {tA tr : TA} {wi : TI} {r : R2} {g : TG}
theorem wk_lend {F H F' H' : Hp} {p : Addr} {o : HO} (k : Wk (L2.upd F p o) H F' H') (hF : F p = none) : Wk F H (hide F' p) H' :=
  ⟨fun a u e => by
    have ne : a ≠ p := fun z => by rw [z, hF] at e; cases e
    rw [hide_ne ne]
    exact k.f a u (by rw [upd_ne ne]; exact e), k.h, fun a u e => k.s a u (hide_ex a u e), fun a u h e => by
    by_cases z : a = p
    · subst z
      exact hide_same
    · rw [hide_ne z]
      exact k.n a u h (by rw [upd_ne z]; exact e)⟩
theorem ep_lend {i : Nat} {t : Option Addr} {u : Ow} {dd d : Dt} (hi : env[i]? = some (.ow t u)) (hd : u.dt = some dd) (h : Ep P w K te (env.set i (.d dd)) d) (f : flatD d = true) : Ep P w K te env d := fun F0 H0 F H σ S Q q => by
  obtain ⟨p, o, h1, h2, h3, h4, h5, S'⟩ := S.freeze hi hd
  refine h F0 H0 _ H σ S' _ fun v F' H' k rp => ?_
  exact q v (hide F' p) H' (wk_lend k h2) (rp.flat f)
end
end Mw
set_option maxHeartbeats 1000000
namespace Mw
open PySem PySem.Spec PyProof.Rows L2 Qw
open Evl hiding ea_cons
open Pw (Dt Rp RpL Wk R2d R1d RLd RLn Kq KqL none_sub spX2 get_set set_same set_ne rangeD rangeD_len py pyL fl flatD Wl wl_at tyD isI isB isS isTp isL)
section
variable {P : Program} {w : World} {K : PySem.W.Frag} {W : WX} {eX : En} {α β γ δ σ σ' τ ρ : Type} {env env1 env2 : En} {ta tb te tc : TE} {tt tu : TT} {tA tr : TA} {wi : TI} {r : R2} {g : TG} {en : σ → En} {da : α → Dt} {db : β → Dt} {dz : γ → Dt}
theorem rl_lenLm {e : α → Dt} {xs : List α} : RLd K (rLenS K) [eL e xs] (eI (xs.length : Int)) := by
  have := Pw.rl_len (K := K) (ds := xs.map e)
  rwa [List.length_map] at this
theorem ep_tupleL {e : α → Dt} {xs : List α} (h : Ep P w K te env (eL e xs)) : Ep P w K (tCB (Pw.rTupS K) (tCons te tNil)) env (eT e xs) := ep_cb (ap_cons h ap_nil) Pw.rl_tup
theorem xo_listL {e : α → Dt} {m : R (List α)} (h : Xp P w K W eX te env m (eL e)) : Xo P w K W eX (tCB (rListS K) (tCons te tNil)) env m (oL e) := by
  cases m with
  | ok a => exact po_n (np_cb (ap_cons h ap_nil) Pw.rn_list)
  | ex x => exact er_cb (era_1 h)
  | no => trivial
theorem sx_app1 {eL : τ → En} {out : ρ → Out} {s2 : TS} {eN : σ → En} {e : α → Dt} {m : R (Ctl σ τ ρ)} (i : Nat) {t : Option Addr} {xs : List α} {a : α} (h : Sx P w K W eX eL out s2 (env.set i (.ow t (oL e (xs ++ [a])))) m eN) : Sx P w K W eX eL out s2 (env.set i (.ow t (.lst (xs.map e ++ [e a])))) m eN := by
  have : (oL e (xs ++ [a])) = Ow.lst (xs.map e ++ [e a]) := by show Ow.lst _ = _; rw [List.map_append]; rfl
  rw [this] at h
  exact h
end
end Mw
set_option maxHeartbeats 1000000
namespace Mw
open PySem PySem.Spec PyProof.Rows L2 Qw
open Evl hiding ea_cons
open Pw (Dt Rp RpL Wk R2d R1d RLd RLn Kq KqL none_sub spX2 tyD isI isB isS isTp isL)
def isNonD : Dt → Bool
  | .non => true
  | _ => false
def R.isOk {α : Type} : R α → Bool
  | .ok _ => true
  | _ => false
def R.isTrue : R Bool → Bool
  | .ok true => true
  | _ => false
/-- what _law_same(a, e) gives, n calls deep at most -/
def sameN : Nat → Dt → Dt → R Bool
  | 0, _, _ => .no
  | n + 1, a, .tup es => match a with
    | .tup as => if as.length = es.length then R.need (es.length ≤ 100000 ∧ ((as.zip es).all fun p => (sameN n p.1 p.2).isOk) = true) (.ok ((as.zip es).all fun p => (sameN n p.1 p.2).isTrue)) else .ok false
    | a => R.need ((tyD a).isSome = true) (.ok false)
  | n + 1, a, .lst es => match a with
    | .lst as => sameN n (.tup as) (.tup es)
    | a => R.need ((tyD a).isSome = true) (.ok false)
  | n + 1, a, .str x => match a with
    | .str y => .ok (decide (y = x))
    | a => R.need ((tyD a).isSome = true) (.ok false)
  | n + 1, a, .non => .ok (isNonD a)
  | n + 1, a, .bl b => match a with
    | .bl c => .ok (decide (c = b))
    | a => R.need ((tyD a).isSome = true) (.ok false)
  | n + 1, a, .int i => match a with
    | .int j => .ok (decide (j = i))
    | a => R.need ((tyD a).isSome = true) (.ok false)
  | _, _, _ => .no
/-- an encoding that it compares rightly -/
def SamE (n : Nat) {α : Type} [DecidableEq α] (e : α → Dt) : Prop := ∀ m, n ≤ m → ∀ a b, sameN m (e a) (e b) = .ok (decide (a = b))
/-- encodings of lists that are not too long -/
def SamB (n : Nat) {α : Type} [DecidableEq α] (e : α → Dt) (ok : α → Prop) : Prop := ∀ m, n ≤ m → ∀ a b, ok b → sameN m (e a) (e b) = .ok (decide (a = b))
theorem SamE.b {n : Nat} {α : Type} [DecidableEq α] {e : α → Dt} (h : SamE n e) : SamB n e (fun _ => True) := fun m hm a b _ => h m hm a b
end Mw
set_option maxHeartbeats 1000000
namespace Mw
open PySem PySem.Spec PyProof.Rows L2 Qw
open Evl hiding ea_cons
open Pw (Dt)
section
variable {α β γ σ σ' τ ρ : Type}
@[irreducible] def Holds (m : R α) (Q : α → Prop) : Prop := match m with
  | .ok a => Q a
  | _ => False
theorem holds_ok {a : α} {Q : α → Prop} : Holds (.ok a) Q ↔ Q a := by
  unfold Holds
  exact Iff.rfl
theorem holds_ex {x : Exn} {Q : α → Prop} : Holds (.ex x) Q ↔ False := by
  unfold Holds
  exact Iff.rfl
theorem holds_no {Q : α → Prop} : Holds .no Q ↔ False := by
  unfold Holds
  exact Iff.rfl
/-- an end of a block -/
def onC (f : σ → Prop) (Q : Ctl σ' τ ρ → Prop) : Ctl σ τ ρ → Prop
  | .nx s => f s
  | .ct t => Q (.ct t)
  | .bk t => Q (.bk t)
  | .rt b => Q (.rt b)
theorem holds_bindC {m : R (Ctl σ τ ρ)} {k : σ → R (Ctl σ' τ ρ)} {Q : Ctl σ' τ ρ → Prop} : Holds (m.bindC k) Q ↔ Holds m (onC (fun s => Holds (k s) Q) Q) := by
  unfold Holds
  cases m with
  | ok c => cases c <;> exact Iff.rfl
  | ex x => exact Iff.rfl
  | no => exact Iff.rfl
theorem onC_nx {f : σ → Prop} {Q : Ctl σ' τ ρ → Prop} {s : σ} : onC f Q (.nx s) ↔ f s := Iff.rfl
def onR (Q : ρ → Prop) : Ctl σ τ ρ → Prop
  | .rt b => Q b
  | _ => False
theorem onR_rt {Q : ρ → Prop} {b : ρ} : onR (σ := σ) (τ := τ) Q (.rt b) ↔ Q b := Iff.rfl
theorem holds_fin {m : R (Ctl σ τ ρ)} {Q : ρ → Prop} : Holds m.fin Q ↔ Holds m (onR Q) := by
  unfold Holds
  cases m with
  | ok c => cases c <;> exact Iff.rfl
  | ex x => exact Iff.rfl
  | no => exact Iff.rfl
theorem Holds.imp {m : R α} {Q Q' : α → Prop} (h : Holds m Q) (i : ∀ a, Q a → Q' a) : Holds m Q' := by
  unfold Holds at h ⊢
  cases m with
  | ok a => exact i a h
  | ex x => exact h
  | no => exact h
theorem holds_eq {m : R α} {b : α} : Holds m (fun a => a = b) ↔ m = .ok b := by
  unfold Holds
  cases m with
  | ok a => exact ⟨fun h => by rw [show a = b from h], fun h => R.ok.inj h⟩
  | ex x => exact ⟨fun h => h.elim, fun h => nomatch h⟩
  | no => exact ⟨fun h => h.elim, fun h => nomatch h⟩
theorem Holds.ex {m : R α} {Q : α → Prop} (h : Holds m Q) : ∃ a, m = .ok a ∧ Q a := by
  unfold Holds at h
  cases m with
  | ok a => exact ⟨a, rfl, h⟩
  | ex x => exact h.elim
  | no => exact h.elim
theorem Holds.of {m : R α} {Q : α → Prop} {a : α} (h : m = .ok a) (q : Q a) : Holds m Q := by rw [h]; exact holds_ok.mpr q
/-- a turn of a for -/
def onF (I : σ → Prop) (Q : Ctl σ τ ρ → Prop) : Ctl σ σ ρ → Prop
  | .nx s => I s
  | .ct s => I s
  | .bk s => Q (.nx s)
  | .rt b => Q (.rt b)
theorem onF_nx {I : σ → Prop} {Q : Ctl σ τ ρ → Prop} {s : σ} : onF I Q (.nx s) ↔ I s := Iff.rfl
theorem onF_ct {I : σ → Prop} {Q : Ctl σ τ ρ → Prop} {s : σ} : onF I Q (.ct s) ↔ I s := Iff.rfl
/-- by what is left -/
theorem holds_for {f : σ → α → R (Ctl σ σ ρ)} {Q : Ctl σ τ ρ → Prop} (I : σ → List α → Prop) : ∀ (xs : List α) (s0 : σ), I s0 xs → (∀ s a r, I s (a :: r) → Holds (f s a) (onF (fun s' => I s' r) Q)) → (∀ s, I s [] → Q (.nx s)) → Holds (R.forR xs s0 f) Q
  | [], s0, h0, _, hd => holds_ok.mpr (hd s0 h0)
  | a :: r, s0, h0, hs, hd => by
    have h := hs s0 a r h0
    rw [R.forR]
    cases e : f s0 a with
    | ok c =>
      rw [e, holds_ok] at h
      cases c with
      | nx s => exact holds_for I r s h hs hd
      | ct s => exact holds_for I r s h hs hd
      | bk s => exact holds_ok.mpr h
      | rt b => exact holds_ok.mpr h
    | ex x => rw [e] at h; exact (by first | exact (holds_ex.mp h).elim | exact (holds_no.mp h).elim)
    | no => rw [e] at h; exact (by first | exact (holds_ex.mp h).elim | exact (holds_no.mp h).elim)
/-- by what is done -/
theorem holds_forD {f : σ → α → R (Ctl σ σ ρ)} {Q : Ctl σ τ ρ → Prop} (I : σ → List α → Prop) (xs : List α) (s0 : σ) (h0 : I s0 []) (hs : ∀ s pre a post, xs = pre ++ a :: post → I s pre → Holds (f s a) (onF (fun s' => I s' (pre ++ [a])) Q)) (hd : ∀ s, I s xs → Q (.nx s)) : Holds (R.forR xs s0 f) Q := by
  refine holds_for (fun s r => ∃ pre, xs = pre ++ r ∧ I s pre) xs s0 ⟨[], rfl, h0⟩ (fun s a r ⟨pre, e, h⟩ => ?_) (fun s ⟨pre, e, h⟩ => hd s (by rw [e, List.append_nil]; exact h))
  refine (hs s pre a r e h).imp fun c hc => ?_
  cases c with
  | nx s => exact ⟨pre ++ [a], by simp [e], hc⟩
  | ct s => exact ⟨pre ++ [a], by simp [e], hc⟩
  | bk s => exact hc
  | rt b => exact hc
/-- a for over range(n), by the turn -/
theorem rangeI_len {lo : Int} {n : Nat} : (rangeI lo n).length = n := by simp [rangeI]
theorem rangeI_get {lo : Int} {n i : Nat} (h : i < n) : (rangeI lo n)[i]? = some (lo + i) := by simp [rangeI, h]
theorem holds_rng {f : σ → Int → R (Ctl σ σ ρ)} {Q : Ctl σ τ ρ → Prop} (I : σ → Nat → Prop) (lo : Int) (n : Nat) (s0 : σ) (h0 : I s0 0) (hs : ∀ s (i : Nat), i < n → I s i → Holds (f s (lo + i)) (onF (fun s' => I s' (i + 1)) Q)) (hd : ∀ s, I s n → Q (.nx s)) : Holds (R.forR (rangeI lo n) s0 f) Q := by
  refine holds_forD (fun s pre => I s pre.length) _ s0 h0 (fun s pre a post e h => ?_) (fun s h => hd s (by rwa [rangeI_len] at h))
  have hl : pre.length < n := by
    have := congrArg List.length e
    simp [rangeI_len] at this
    omega
  have ha : a = lo + pre.length := by
    have h1 := rangeI_get (lo := lo) hl
    rw [e] at h1
    simpa using h1
  subst ha
  refine (hs s pre.length hl h).imp fun c hc => ?_
  cases c with
  | nx s => rw [onF_nx] at hc ⊢; rwa [List.length_append]
  | ct s => rw [onF_ct] at hc ⊢; rwa [List.length_append]
  | bk s => exact hc
  | rt b => exact hc
end
end Mw
set_option maxHeartbeats 1000000
namespace Mw
open PySem PySem.Spec PyProof.Rows L2 Qw
open Evl hiding ea_cons
open Pw (Dt Rp RpL Wk R2d R1d RLd RLn Kq KqL none_sub spX2 get_set set_same set_ne)
namespace R
variable {σ τ ρ : Type}
/-- what an __init__ stores -/
def finI : R (Ctl σ τ ρ) → R σ
  | .ok (.nx s) => .ok s
  | .ex x => .ex x
  | _ => .no
end R
section
variable {P : Program} {w : World} {K : PySem.W.Frag} {W : WX} {eX : En} {α β γ δ σ σ' τ ρ : Type} {env env1 env2 : En} {ta tb te tc : TE} {tt tu : TT} {tA tr : TA} {wi : TI} {r : R2} {g : TG} {en : σ → En} {da : α → Dt} {db : β → Dt} {dz : γ → Dt} {C : Addr} {fs : List Str} {ds es : List Dt}
def GotI (K : PySem.W.Frag) (fs : List Str) (m : R β) (ef : β → List Dt) (r : Ri) : Prop := match m with
  | .ok b => r = .f fs (ef b)
  | .ex x => r = .x (x.xn K)
  | .no => False
def RI (K : PySem.W.Frag) (fs : List Str) (ea : α → List Dt) (m : α → R β) (ef : β → List Dt) (ds : List Dt) (r : Ri) : Prop := ∃ a, ds = ea a ∧ GotI K fs (m a) ef r
theorem does_i {E : XK} {s : TS} {p : Addr} {env : En} {m : R (Ctl σ τ ρ)} {eL : τ → En} {out : ρ → Out} {eN : σ → En} {ef : σ → List Dt} {rr : Ri} (h : Sx P w K (WD E) eX eL out s env m eN) (he : ∀ v, (eN v)[0]? = some (.ow (some p) (.ins C fs (ef v)))) (hr : GotI K fs m.finI ef rr) : DoesI P w K E C p s env rr := by
  cases m with
  | ok c =>
    cases c with
    | nx v => rw [show rr = .f fs (ef v) from hr]; exact ⟨_, he v, h⟩
    | rt b => exact False.elim hr
    | ct v => exact False.elim hr
    | bk v => exact False.elim hr
  | ex x => rw [show rr = .x (x.xn K) from hr]; exact ⟨eX, h⟩
  | no => exact False.elim hr
variable {eL : τ → En} {out : ρ → Out} {s s1 s2 : TS} {eN : σ → En}
theorem xo_make {E : XK} {ea : α → List Dt} {m : α → R β} {ef : β → List Dt} {ma : R α} (h : Xa P w K W eX tA env ma ea) {u : β → Ow} (hu : ∀ b, u b = .ins C fs (ef b)) : Xo P w K W eX (tMake C (spI P w K C (RI K fs ea m ef)) [] E tA) env (ma.bind fun a => (m a).nox) u := by
  cases ma with
  | ok a =>
    show Xo P w K W eX _ env (m a).nox u
    cases e : m a with
    | ok c =>
      show EpO P w K _ env (u c)
      rw [hu c]
      exact po_make h ⟨a, rfl, by rw [e]; rfl⟩
    | ex x => trivial
    | no => trivial
  | ex x => exact fun F0 H0 F H σ S Q q => h F0 H0 F H σ S _ q
  | no => trivial
theorem er_meth2 {sp : Sp} {nm : Str} {E : XK} {x : Xn} (h : Ep P w K ta env (.obj C fs es)) (hA : ErA P w K W tA env x eX) (hm : fs.contains nm = false) : Er P w K W (tMeth C nm sp [] E ta tA) env x eX := fun F0 H0 F H σ S Q q => h F0 H0 F H σ S _ fun v F1 H1 k1 r => by
  obtain ⟨a, dx, vs, rfl, h1, h2, h3⟩ := r
  exact ⟨a, dx, _, rfl, k1.s a _ h1, zip_none hm, hA F0 H0 F1 H1 σ (S.wk k1) _ fun od F2 H2 e => q od F2 H2 (k1.f.trans e)⟩
theorem xp_meth {E : XK} {nm : Str} {v : δ} {dA : α → List Dt} {ea : δ × α → List Dt} {m : δ × α → R γ} {er : γ → Rs} {ma : R α} (h : Ep P w K ta env (.obj C fs es)) (hA : Xa P w K W eX tA env ma dA) (hea : ∀ a, ea (v, a) = .obj C fs es :: dA a) (hd : ∀ c, er c = .d (dz c)) (hm : fs.contains nm = false := by decide +kernel) :
    Xp P w K W eX (tMeth C nm (spR P w K (RF K ea m er)) [] E ta tA) env (ma.bind fun a => (m (v, a)).nox) dz := by
  cases ma with
  | ok a =>
    show Xp P w K W eX _ env (m (v, a)).nox dz
    cases e : m (v, a) with
    | ok c => exact ep_meth h hA ⟨(v, a), (hea a).symm, by rw [e]; exact (hd c).symm⟩ hm
    | ex x => trivial
    | no => trivial
  | ex x => exact er_meth2 h hA hm
  | no => trivial
theorem xo_meth {E : XK} {nm : Str} {v : δ} {dA : α → List Dt} {ea : δ × α → List Dt} {m : δ × α → R γ} {er : γ → Rs} {u : γ → Ow} {ma : R α} (h : Ep P w K ta env (.obj C fs es)) (hA : Xa P w K W eX tA env ma dA) (hea : ∀ a, ea (v, a) = .obj C fs es :: dA a) (hd : ∀ c, er c = .o (u c)) (hm : fs.contains nm = false := by decide +kernel) :
    Xo P w K W eX (tMeth C nm (spR P w K (RF K ea m er)) [] E ta tA) env (ma.bind fun a => (m (v, a)).nox) u := by
  cases ma with
  | ok a =>
    show Xo P w K W eX _ env (m (v, a)).nox u
    cases e : m (v, a) with
    | ok c => exact po_meth h hA ⟨(v, a), (hea a).symm, by rw [e]; exact (hd c).symm⟩ hm
    | ex x => trivial
    | no => trivial
  | ex x => exact er_meth2 h hA hm
  | no => trivial
end
end Mw
set_option maxHeartbeats 1000000
namespace Qw
open PySem PySem.Spec PyProof.Rows L2 Evl
end Qw
namespace Mw
open PySem PySem.Spec PyProof.Rows L2 Qw
open Evl hiding ea_cons
open Pw (Dt Rp RpL Wk R2d R1d RLd RLn Kq KqL none_sub spX2 get_set set_same set_ne)
section
variable {P : Program} {w : World} {K : PySem.W.Frag} {W Wout : WX} {eX eB : En} {α β γ δ σ σ' τ ρ : Type} {env env1 env2 : En} {ta tb te tc : TE} {tt tu : TT} {tA tr : TA} {C : Addr} {fs : List Str} {es : List Dt} {dz : γ → Dt}
/-- what is raised of the classes cs is caught -/
def R.catch (cs : List Str) (m h : R (Ctl σ τ ρ)) : R (Ctl σ τ ρ) := match m with
  | .ex x => if cs.contains x.C = true then h else .no
  | m => m
@[simp] theorem catch_ok {cs : List Str} {c : Ctl σ τ ρ} {h : R (Ctl σ τ ρ)} : R.catch cs (.ok c) h = .ok c := rfl
end
end Mw
set_option maxHeartbeats 1000000
namespace Mw
open PySem PySem.Spec PyProof.Rows L2 Qw
open Evl hiding ea_cons
open Pw (Dt Rp RpL Wk R2d R1d RLd RLn Kq KqL none_sub spX2 get_set set_same set_ne)
section
variable {P : Program} {w : World} {K : PySem.W.Frag} {W : WX} {eX : En} {α β γ δ σ σ' τ ρ : Type} {env env1 env2 : En} {ta tb te tc : TE} {tt tu : TT} {tA tr : TA}
def R.ofO (o : Option α) : R α := match o with
  | some a => .ok a
  | none => .no
/-- what a cast gives, it was -/
def AsOk (f : Dt → Option α) (e : α → Dt) : Prop := ∀ d a, f d = some a ↔ d = e a
theorem AsOk.mk {f : Dt → Option α} {e : α → Dt} (h : AsOk f e) (a : α) : f (e a) = some a := (h _ _).mpr rfl
end
end Mw
set_option maxHeartbeats 1000000
namespace Qw
open PySem PySem.Spec PyProof.Rows L2 Evl
end Qw
namespace Mw
open PySem PySem.Spec PyProof.Rows L2 Qw
open Evl hiding ea_cons
open Pw (Dt Rp RpL Wk R2d R1d RLd RLn Kq KqL none_sub spX2 get_set set_same set_ne)
end Mw
set_option maxHeartbeats 1000000
namespace Mw
open PySem PySem.Spec PyProof.Rows L2 Qw
open Evl hiding ea_cons
open Pw (Dt Rp RpL Wk R2d R1d RLd RLn Kq KqL none_sub spX2 get_set set_same set_ne Wl)
section
variable {P : Program} {w : World} {K : PySem.W.Frag} {W : WX} {eX : En} {α β γ δ σ σ' τ ρ : Type} {env env1 env2 : En} {ta tb te tc : TE} {tt tu : TT} {tA tr : TA} {da : α → Dt} {db : β → Dt} {en : σ → En}
@[simp] theorem ofO_some {a : α} : R.ofO (some a) = .ok a := rfl
end
section
variable {α β σ τ ρ : Type}
theorem get_lt {xs : List α} {i : Nat} {a : α} (h : xs[i]? = some a) : i < xs.length := (List.getElem?_eq_some_iff.mp h).1
end
end Mw
set_option maxHeartbeats 1000000
namespace Zc
open PySem
open PySem.Sem (wp)
abbrev n1 (h : Heap) (l : Addr) : Heap := h.push { cls := .type "list_iterator", data := .fields #[.ref l, .int 0 0] }
abbrev n2 (h : Heap) (l t : Addr) : Heap := (n1 h l).push { cls := .type "tuple_iterator", data := .fields #[.ref t, .int 0 0] }
abbrev n3 (h : Heap) (l t : Addr) : Heap := (n2 h l t).push { cls := .type "tuple", data := .seq #[.ref h.objs.size, .ref (n1 h l).objs.size] }
abbrev n4 (h : Heap) (l t : Addr) : Heap := (n3 h l t).push { cls := .type "tuple", data := .seq #[.none, .none] }
open PySem.Spec PyProof.Rows L2
end Zc
namespace Mw
open PySem PySem.Spec PyProof.Rows L2 Qw
open Evl hiding ea_cons
open Pw (Dt Rp RpL Wk)
end Mw
set_option maxHeartbeats 1000000
namespace Mw
open PySem PySem.Spec PyProof.Rows L2 Qw
open Evl hiding ea_cons
open Pw (Dt Rp RpL Wk R2d R1d RLd RLn Kq KqL none_sub spX2 get_set set_same set_ne Wl)
section
variable {α β : Type}
def kk (e : α → Dt) (kvs : List (Str × α)) : KD := kvs.map fun p => ((.inr p.1 : Key), e p.2)
abbrev eK (e : α → Dt) : List (Str × α) → Dt := fun kvs => dk (kk e kvs)
abbrev oK (e : α → Dt) : List (Str × α) → Ow := fun kvs => Ow.dk (kk e kvs)
def getV (kvs : List (Str × α)) (x : Str) : Option α := (kvs.find? fun p => decide (p.1 = x)).map (·.2)
def getR (kvs : List (Str × α)) (x : Str) : R α := R.ofO (getV kvs x)
theorem inr_dec (a b : Str) : decide ((Sum.inr a : Key) = Sum.inr b) = decide (a = b) := by
  by_cases h : a = b
  · rw [decide_eq_true h, decide_eq_true (by rw [h])]
  · rw [decide_eq_false h, decide_eq_false fun z => h (Sum.inr.inj z)]
theorem valD_kk {e : α → Dt} {x : Str} : ∀ {kvs : List (Str × α)}, valD (kk e kvs) (.inr x) = (getV kvs x).map e
  | [] => rfl
  | p :: kvs => by
    have ih := valD_kk (e := e) (x := x) (kvs := kvs)
    unfold valD getV at *
    rw [kk, List.map_cons, List.find?_cons, List.find?_cons]
    rw [show decide (((Sum.inr p.1 : Key), e p.2).1 = Sum.inr x) = decide (p.1 = x) from inr_dec _ _]
    cases decide (p.1 = x)
    · exact ih
    · rfl
end
section
variable {P : Program} {w : World} {K : PySem.W.Frag} {W : WX} {eX : En} {α β γ δ σ σ' τ ρ : Type} {env env1 env2 : En} {ta tb td te ty tx tc : TE} {tt tu : TT} {tA tr : TA} {wi : TI} {g : TG} {e : α → Dt}
/-- an expression that gives a dict -/
def Xk (P : Program) (w : World) (K : PySem.W.Frag) (W : WX) (eX : En) (te : TE) (env : En) (m : R (List (Str × α))) (e : α → Dt) : Prop := match m with
  | .ok kvs => Edk P w K te env (kk e kvs)
  | .ex x => Er P w K W te env (x.xn K) eX
  | .no => True
theorem xk_d {m : R (List (Str × α))} (h : Xp P w K W eX te env m (eK e)) : Xk P w K W eX te env m e := by
  cases m with
  | ok a => exact edk_d h
  | ex x => exact h
  | no => trivial
theorem xp_dget {md : R (List (Str × α))} {mk : R Str} (h : Xk P w K W eX td env md e) (hk : Xp P w K W eX ty env mk eS) : Xp P w K W eX (tDGet td ty) env (md.bind fun d => mk.bind fun x => getR d x) e := by
  cases md with
  | ok d =>
    cases mk with
    | ok x =>
      show Xp P w K W eX _ env (R.ofO (getV d x)) e
      cases q : getV d x with
      | some a => exact ep_dget (k := .inr x) h hk (by rw [valD_kk, q]; rfl)
      | none => trivial
    | ex x => exact fun F0 H0 F H σ S Q q => h F0 H0 F H σ S _ fun a qs F1 H1 k1 _ _ => hk F0 H0 F1 H1 σ (S.wk k1) _ fun od F2 H2 e2 => q od F2 H2 (k1.f.trans e2)
    | no => trivial
  | ex x => exact fun F0 H0 F H σ S Q q => h F0 H0 F H σ S _ q
  | no => trivial
end
end Mw
set_option maxHeartbeats 1000000
namespace Mw
open PySem PySem.Spec PyProof.Rows L2 Qw
open Evl hiding ea_cons
open Pw (Dt Rp RpL Wk R2d R1d RLd RLn Kq KqL none_sub spX2 get_set set_same set_ne Wl py)
section
variable {P : Program} {w : World} {K : PySem.W.Frag} {W : WX} {eX : En} {α β γ δ σ σ' τ ρ : Type} {env env1 env2 : En} {ta tb td te ty tx tc : TE} {tt tu : TT} {tA tr : TA}
theorem inV_strs (x : Str) (xs : List Str) : inV (V.str x) (xs.map V.str) = decide (x ∈ xs) := by
  unfold inV
  induction xs with
  | nil => rfl
  | cons a xs ih =>
    rw [List.map_cons, List.any_cons, ih]
    have : eqV (V.str a) (V.str x) = decide (x = a) := by
      simp only [eqV]
      by_cases e : x = a
      · subst e; simp
      · simp [e, Ne.symm e]
    rw [this]
    simp
theorem fl_strsM (xs : List Str) : (xs.map Dt.str).map Pw.fl = xs.map V.str := by
  rw [List.map_map]
  rfl
theorem r2_inSL {x : Str} {xs : List Str} : R2d K (rIn K false) (.str x) (eL eS xs) (.bl (decide (x ∈ xs))) := by
  have h := Pw.r2_in (K := K) (neg := false) (d := .str x) (ds := xs.map Dt.str) rfl (by simp [Pw.flatD]) rfl (by rw [fl_strsM]; simp [flatV])
  refine r2_is h ?_
  rw [fl_strsM]
  exact congrArg Dt.bl (inV_strs x xs)
theorem r2_inSLn {x : Str} {xs : List Str} : R2d K (rIn K true) (.str x) (eL eS xs) (.bl (!decide (x ∈ xs))) := by
  have h := Pw.r2_in (K := K) (neg := true) (d := .str x) (ds := xs.map Dt.str) rfl (by simp [Pw.flatD]) rfl (by rw [fl_strsM]; simp [flatV])
  refine r2_is h ?_
  rw [fl_strsM]
  exact congrArg (fun b => Dt.bl (!b)) (inV_strs x xs)
def ltS (a b : Str) : Bool := decide (a.cps.toList < b.cps.toList)
theorem str_ext {a b : Str} (h : a.cps.toList = b.cps.toList) : a = b := by
  obtain ⟨x⟩ := a
  obtain ⟨y⟩ := b
  have : x = y := Array.toList_inj.mp h
  rw [this]
theorem ltS_irr (a : Str) : ltS a a = false := decide_eq_false (List.lt_irrefl _)
theorem ltS_tr {a b c : Str} (h1 : ltS a b = true) (h2 : ltS b c = true) : ltS a c = true := decide_eq_true (List.lt_trans (of_decide_eq_true h1) (of_decide_eq_true h2))
theorem ltS_tot {a b : Str} (h1 : ltS a b = false) (h2 : ltS b a = false) : a = b := str_ext (List.le_antisymm (of_decide_eq_false h2) (of_decide_eq_false h1))
theorem ltS_asym {a b : Str} (h1 : ltS a b = true) : ltS b a = false := by
  cases h : ltS b a with
  | false => rfl
  | true => rw [← ltS_tr h1 h, ltS_irr]
theorem leS_tr {a b c : Str} (h1 : ltS b a = false) (h2 : ltS c b = false) : ltS c a = false := by
  cases h : ltS c a with
  | false => rfl
  | true =>
    cases h3 : ltS b c with
    | true => rw [ltS_tr h3 h] at h1; cases h1
    | false =>
      have := ltS_tot h3 h2
      subst this
      rw [h] at h1
      cases h1
def sortS (xs : List Str) : List Str := xs.mergeSort fun a b => !ltS b a
theorem sortS_perm (xs : List Str) : (sortS xs).Perm xs := List.mergeSort_perm _ _
theorem sortS_pw (xs : List Str) : (sortS xs).Pairwise fun a b => ltS b a = false := by
  have := List.pairwise_mergeSort (le := fun a b : Str => !ltS b a) (fun a b c h1 h2 => by
    simp only [Bool.not_eq_true'] at h1 h2 ⊢
    exact leS_tr h1 h2) (fun a b => by
    cases h : ltS b a with
    | false => rfl
    | true => rw [ltS_asym h]; rfl) xs
  exact this.imp fun h => by simpa using h
theorem sorted_pw : ∀ (xs : List Str), sortedS xs = true → xs.Pairwise fun a b => ltS b a = false := by
  have lt_is : ∀ a b : Str, ltCps a.cps.toList b.cps.toList = ltS a b := fun a b => ltCps_eq _ _
  have go : ∀ (r : List Str) (x : Str), risingS x r = true → (∀ y ∈ r, ltS y x = false) ∧ r.Pairwise fun a b => ltS b a = false := by
    intro r
    induction r with
    | nil => intro x _; exact ⟨fun y h => by simp at h, .nil⟩
    | cons y r ih =>
      intro x h
      have h : (!ltCps y.cps.toList x.cps.toList && risingS y r) = true := h
      rw [Bool.and_eq_true, Bool.not_eq_true', lt_is] at h
      obtain ⟨i1, i2⟩ := ih y h.2
      refine ⟨fun z hz => ?_, List.pairwise_cons.mpr ⟨i1, i2⟩⟩
      rcases List.mem_cons.mp hz with rfl | hz
      · exact h.1
      · exact leS_tr h.1 (i1 z hz)
  intro xs h
  cases xs with
  | nil => exact .nil
  | cons x r =>
    obtain ⟨i1, i2⟩ := go r x h
    exact List.pairwise_cons.mpr ⟨i1, i2⟩
theorem sortS_uniq {xs ys : List Str} (hp : ys.Perm xs) (hw : ys.Pairwise fun a b => ltS b a = false) : ys = sortS xs := List.Perm.eq_of_pairwise (fun a b _ _ h1 h2 => ltS_tot h2 h1) hw (sortS_pw xs) (hp.trans (sortS_perm xs).symm)
def sortSR (xs : List Str) : R (List Str) := R.need (xs.length < 64) (.ok (sortS xs))
theorem strs_rp {F : Hp} : ∀ xs : List Str, RpL K F (xs.map eS) (xs.map V.str)
  | [] => rfl
  | x :: xs => ⟨V.str x, xs.map V.str, rfl, rfl, strs_rp xs⟩
theorem rp_strs {F : Hp} : ∀ {xs : List Str} {vs : List V}, RpL K F (xs.map eS) vs → vs = xs.map V.str
  | [], vs, h => h
  | x :: xs, vs, h => by
    obtain ⟨v, us, rfl, h1, h2⟩ := h
    rw [show v = V.str x from h1, rp_strs h2]
    rfl
theorem xo_sortS {m : R (List Str)} (h : Xp P w K W eX te env m (eL eS)) : Xo P w K W eX (tCB (rSortedS K) (tCons te tNil)) env (m.bind fun xs => sortSR xs) (oL eS) := by
  cases m with
  | ok xs =>
    show Xo P w K W eX _ env (sortSR xs) (oL eS)
    unfold sortSR R.need
    split
    · rename_i hz
      refine fun F0 H0 F H σ S Q q => h F0 H0 F H σ S _ fun v F1 H1 k1 r1 => ?_
      obtain ⟨a, vs, rfl, h1, h2⟩ := r1
      have e := rp_strs h2
      subst e
      refine ⟨a, xs, rfl, ex_l k1.s h1, hz, fun ys p hp ho hn => ?_⟩
      have := sortS_uniq hp (sorted_pw ys ho)
      subst this
      exact q p _ F1 _ (k1.trans (Wk.own k1.s _ hn)) (fresh_back k1.h hn) (none_sub k1.s hn) upd_same ⟨_, rfl, strs_rp _⟩
    · trivial
  | ex x => exact er_cb (era_1 h)
  | no => trivial
def PyS (n : Nat) (e : α → Dt) (o : α → Bool) : Prop := ∃ p : α → PyData, (∀ a, py (e a) = some (p a)) ∧ (∀ a, o a = true → (p a).canLay0 = true) ∧ (∀ a, (p a).depth ≤ n) ∧ ∀ a b, PyData.eqv (p a) (p b) = true ↔ a = b
def okStr (x : Str) : Bool := (PyData.str x).canLay0
theorem pyS_str : PyS 0 eS okStr := ⟨PyData.str, fun _ => rfl, fun _ h => h, fun _ => Nat.le_refl _, fun a b => by simp [PyData.eqv]⟩
theorem layAll_mapO {p : α → PyData} {o : α → Bool} (h : ∀ a, o a = true → (p a).canLay0 = true) : ∀ xs : List α, xs.all o = true → PyData.canLayAll0 (xs.map p) = true
  | [], _ => rfl
  | a :: xs, ho => by
    rw [List.all_cons, Bool.and_eq_true] at ho
    show (PyData.canLay0 (p a) && PyData.canLayAll0 (xs.map p)) = true
    rw [h a ho.1, layAll_mapO h xs ho.2]
    rfl
theorem pyS_list {n : Nat} {e : α → Dt} {o : α → Bool} (h : PyS n e o) : PyS (n + 1) (eL e) fun xs => xs.all o := by
  obtain ⟨p, h1, h2, h3, h4⟩ := h
  refine ⟨fun xs => .list (xs.map p), fun xs => ?_, fun xs => layAll_mapO h2 xs, fun xs => ?_, fun a b => ?_⟩
  · show (Pw.pyL (xs.map e)).map PyData.list = _
    rw [pyL_map h1]
    rfl
  · show PyData.depthAll (xs.map p) + 1 ≤ n + 1
    have := depthAll_map h3 xs
    omega
  · show PyData.eqvAll _ _ = true ↔ _
    exact eqvAll_map h4 a b
theorem pyS_tup {n : Nat} {e : α → Dt} {o : α → Bool} (h : PyS n e o) : PyS (n + 1) (eT e) fun xs => xs.all o := by
  obtain ⟨p, h1, h2, h3, h4⟩ := h
  refine ⟨fun xs => .tuple (xs.map p), fun xs => ?_, fun xs => layAll_mapO h2 xs, fun xs => ?_, fun a b => ?_⟩
  · show (Pw.pyL (xs.map e)).map PyData.tuple = _
    rw [pyL_map h1]
    rfl
  · show PyData.depthAll (xs.map p) + 1 ≤ n + 1
    have := depthAll_map h3 xs
    omega
  · show PyData.eqvAll _ _ = true ↔ _
    exact eqvAll_map h4 a b
theorem pyS_p2 {n m : Nat} {e : α → Dt} {f : β → Dt} {o : α → Bool} {q : β → Bool} (h : PyS n e o) (h' : PyS m f q) : PyS (max n m + 1) (eP2 e f) fun x => o x.1 && q x.2 := by
  obtain ⟨p, a1, a2, a3, a4⟩ := h
  obtain ⟨r, b1, b2, b3, b4⟩ := h'
  refine ⟨fun x => .tuple [p x.1, r x.2], fun x => ?_, fun x hx => ?_, fun x => ?_, fun a b => ?_⟩
  · show (match py (e x.1), (match py (f x.2), Pw.pyL [] with | some p, some ps => some (p :: ps) | _, _ => none) with | some p, some ps => some (p :: ps) | _, _ => none).map PyData.tuple = _
    rw [a1, b1]
    rfl
  · rw [Bool.and_eq_true] at hx
    show ((p x.1).canLay0 && ((r x.2).canLay0 && true)) = true
    rw [a2 _ hx.1, b2 _ hx.2]
    rfl
  · show max (p x.1).depth (max (r x.2).depth 0) + 1 ≤ _
    have := a3 x.1
    have := b3 x.2
    omega
  · show (PyData.eqv (p a.1) (p b.1) && (PyData.eqv (r a.2) (r b.2) && true)) = true ↔ _
    rw [Bool.and_true, Bool.and_eq_true, a4, b4]
    exact ⟨fun h => Prod.ext h.1 h.2, fun h => by rw [h]; exact ⟨rfl, rfl⟩⟩
theorem pyS_map {n : Nat} {e : α → Dt} {f : β → Dt} {o : α → Bool} (g : β → α) (gi : ∀ a b, g a = g b → a = b) (he : ∀ b, f b = e (g b)) (h : PyS n e o) : PyS n f fun b => o (g b) := by
  obtain ⟨p, a1, a2, a3, a4⟩ := h
  exact ⟨fun b => p (g b), fun b => by rw [he, a1], fun b h => a2 _ h, fun b => a3 _, fun a b => by rw [a4]; exact ⟨gi a b, fun h => by rw [h]⟩⟩
def eqSR [DecidableEq α] (o : α → Bool) (a b : α) : R Bool := R.need ((o a && o b) = true) (.ok (decide (a = b)))
def neSR [DecidableEq α] (o : α → Bool) (a b : α) : R Bool := R.need ((o a && o b) = true) (.ok (!decide (a = b)))
theorem rm_eqS [DecidableEq α] {n : Nat} {e : α → Dt} {o : α → Bool} (h : PyS n e o) (hn : n ≤ 64) {a b : α} : R2m K (rEqD K) (e a) (e b) (eqSR o a b) eB := rm_need fun ho => by
  rw [Bool.and_eq_true] at ho
  obtain ⟨p, h1, h2, h3, h4⟩ := h
  have := Pw.r2_eqD (K := K) (h1 a) (h1 b) (by unfold SeqAt.shaped; rw [h2 a ho.1, decide_eq_true (Nat.le_trans (h3 a) hn)]; rfl) (by unfold SeqAt.shaped; rw [h2 b ho.2, decide_eq_true (Nat.le_trans (h3 b) hn)]; rfl)
  refine rm_v (z := eB) (r2_is this ?_)
  congr 1
  rw [Bool.eq_iff_iff, h4, decide_eq_true_eq]
theorem rm_neS [DecidableEq α] {n : Nat} {e : α → Dt} {o : α → Bool} (h : PyS n e o) (hn : n ≤ 64) {a b : α} : R2m K (rNeD K) (e a) (e b) (neSR o a b) eB := rm_need fun ho => by
  rw [Bool.and_eq_true] at ho
  obtain ⟨p, h1, h2, h3, h4⟩ := h
  have := Pw.r2_neD (K := K) (h1 a) (h1 b) (by unfold SeqAt.shaped; rw [h2 a ho.1, decide_eq_true (Nat.le_trans (h3 a) hn)]; rfl) (by unfold SeqAt.shaped; rw [h2 b ho.2, decide_eq_true (Nat.le_trans (h3 b) hn)]; rfl)
  refine rm_v (z := eB) (r2_is this ?_)
  congr 2
  rw [Bool.eq_iff_iff, h4, decide_eq_true_eq]
end
section
variable {P : Program} {w : World} {K : PySem.W.Frag} {W Wout : WX} {eX eBd : En} {α β γ δ σ σ' τ ρ : Type} {env env1 env2 : En} {ta tb td te ty tx tc : TE} {tt tu : TT} {tA tr : TA}
theorem prD_keys {F : Hp} {e : α → Dt} {kvs : List (Str × α)} {q : List (Key × V)} (h : PrD K F (kk e kvs) q) : q.map (·.1) = (kvs.map Prod.fst).map Sum.inr := by
  have := h.1
  rw [this]
  unfold kk
  rw [List.map_map, List.map_map]
  rfl
theorem xo_sortK {e : α → Dt} {m : R (List (Str × α))} (h : Xk P w K W eX te env m e) : Xo P w K W eX (tCB (fun xs H Q => ∃ (a : Addr) (kvs : List (Key × V)) (ks : List Str), xs = [.ref a] ∧ Rd H a (.dK kvs) ∧ kvs.map (·.1) = ks.map Sum.inr ∧ ks.length < 64 ∧
    ∀ ys p, ys.Perm ks → sortedS ys = true → H p = none → Q (.ref p) (L2.upd H p (.lst (ys.map V.str)))) (tCons te tNil)) env (m.bind fun d => sortSR (d.map Prod.fst)) (oL eS) := by
  cases m with
  | ok d =>
    show Xo P w K W eX _ env (sortSR (d.map Prod.fst)) (oL eS)
    unfold sortSR R.need
    split
    · rename_i hz
      refine fun F0 H0 F H σ S Q q => h F0 H0 F H σ S _ fun a qs F1 H1 k1 st r1 => ?_
      refine ⟨a, qs, d.map Prod.fst, rfl, st F1 H1 (Wk.refl k1.s), prD_keys r1, hz, fun ys p hp ho hn => ?_⟩
      have := sortS_uniq hp (sorted_pw ys ho)
      subst this
      exact q p _ F1 _ (k1.trans (Wk.own k1.s _ hn)) (fresh_back k1.h hn) (none_sub k1.s hn) upd_same ⟨_, rfl, strs_rp _⟩
    · trivial
  | ex x => exact er_cb (era_1 h)
  | no => trivial
end
end Mw
namespace Qw
open PySem PySem.Spec PyProof.Rows L2 Evl
end Qw
set_option maxHeartbeats 1000000
namespace Mw
open PySem PySem.Spec PyProof.Rows L2 Qw
open Evl hiding ea_cons
open Pw (Dt Rp RpL Wk R2d R1d RLd RLn Kq KqL none_sub spX2 get_set set_same set_ne Wl py tyD isI isB isS isTp isL)
end Mw
set_option maxHeartbeats 1000000
namespace Mw
open PySem PySem.Spec PyProof.Rows L2 Qw
open Evl hiding ea_cons
open Pw (Dt Rp RpL)
section
variable {P : Program} {w : World} {K : PySem.W.Frag} {W : WX} {eX : En} {env : En}
theorem hu65_of {k : Nat} {A : Around} (r : Room k A) : A.units + 65 < cLine := by have := r.un; omega
end
end Mw
set_option maxHeartbeats 1000000
namespace Qw
open PySem PySem.Spec PyProof.Rows L2
open Pw (Dt)
end Qw
set_option maxHeartbeats 1000000
namespace Mw
open PySem PySem.Spec PyProof.Rows L2 Qw
open Evl hiding ea_cons
open Pw (Dt Rp RpL Wk R2d R1d RLd RLn Kq KqL none_sub spX2 get_set set_same set_ne Wl)
mutual
def nd : Dt → Bool
  | .tup ds => ndL ds
  | .lst ds => ndL ds
  | .obj _ _ ds => ndL ds
  | .dic _ _ => false
  | .dit _ _ => false
  | .exc _ _ _ => false
  | _ => true
def ndL : List Dt → Bool
  | [] => true
  | d :: ds => nd d && ndL ds
end
/-- all but dicts stay -/
def NoDk (F F' : Hp) : Prop := ∀ b o, F b = some o → (∀ q, o ≠ .dK q) → (∀ x q, o ≠ .frz x (.dK q)) → F' b = some o
section
variable {K : PySem.W.Frag} {F F' : Hp}
theorem NoDk.l (n : NoDk F F') {a : Addr} {xs : List V} (h : SqL K F a xs) : SqL K F' a xs := by
  rcases h with (h | ⟨o, h⟩) | h
  · exact .inl (.inl (n _ _ h (fun _ z => nomatch z) fun _ _ z => nomatch z))
  · exact .inl (.inr ⟨o, n _ _ h (fun _ z => nomatch z) fun _ _ z => nomatch z⟩)
  · exact .inr h
theorem NoDk.t (n : NoDk F F') {a : Addr} {xs : List V} (h : SqT K F a xs) : SqT K F' a xs := by
  rcases h with (h | ⟨o, h⟩) | h
  · exact .inl (.inl (n _ _ h (fun _ z => nomatch z) fun _ _ z => nomatch z))
  · exact .inl (.inr ⟨o, n _ _ h (fun _ z => nomatch z) fun _ _ z => nomatch z⟩)
  · exact .inr h
end
theorem ndL_map {α : Type} {e : α → Dt} (h : ∀ a, nd (e a) = true) : ∀ xs : List α, ndL (xs.map e) = true
  | [] => rfl
  | x :: xs => by
    show (nd (e x) && ndL (xs.map e)) = true
    rw [h x, ndL_map h xs]
    rfl
/-- an encoding of data without dicts -/
class ND {α : Type} (e : α → Dt) : Prop where
  h : ∀ a, nd (e a) = true
instance : ND eI := ⟨fun _ => rfl⟩
instance : ND eB := ⟨fun _ => rfl⟩
instance : ND eS := ⟨fun _ => rfl⟩
instance : ND eU := ⟨fun _ => rfl⟩
instance {α : Type} {e : α → Dt} [i : ND e] : ND (eL e) := ⟨fun xs => ndL_map i.h xs⟩
instance {α : Type} {e : α → Dt} [i : ND e] : ND (eT e) := ⟨fun xs => ndL_map i.h xs⟩
instance {α β : Type} {e : α → Dt} {f : β → Dt} [i : ND e] [j : ND f] : ND (eP2 e f) := ⟨fun p => by
  show (nd (e p.1) && (nd (f p.2) && true)) = true
  rw [i.h, j.h]; rfl⟩
instance {α β γ : Type} {e : α → Dt} {f : β → Dt} {g : γ → Dt} [i : ND e] [j : ND f] [k : ND g] : ND (eP3 e f g) := ⟨fun p => by
  show (nd (e p.1) && (nd (f p.2.1) && (nd (g p.2.2) && true))) = true
  rw [i.h, j.h, k.h]; rfl⟩
instance {α β γ δ : Type} {e : α → Dt} {f : β → Dt} {g : γ → Dt} {l : δ → Dt} [i : ND e] [j : ND f] [k : ND g] [m : ND l] : ND (eP4 e f g l) := ⟨fun p => by
  show (nd (e p.1) && (nd (f p.2.1) && (nd (g p.2.2.1) && (nd (l p.2.2.2) && true)))) = true
  rw [i.h, j.h, k.h, m.h]; rfl⟩
instance {α : Type} {e : α → Dt} [i : ND e] : ND (eO e) := ⟨fun o => by
  cases o with
  | none => rfl
  | some a => exact i.h a⟩
def ndW : Ow → Bool
  | .lst ds => ndL ds
  | .dic _ ds => ndL ds
  | .dit _ ds => ndL ds
  | .set _ _ => true
  | .ins _ _ ds => ndL ds
def ndS : Sl → Bool
  | .x => true
  | .u => true
  | .d d => nd d
  | .ow _ u => ndW u
  | _ => false
/-- the slots as they are told within the walk; u: what the slots hold -/
inductive LkE (u : Nat → V) : Nat → En → En → Prop where
  | nil {i : Nat} : LkE u i [] []
  | s {i : Nat} {s : Sl} {a b : En} (h : ndS s = true) (t : LkE u (i + 1) a b) : LkE u i (s :: a) (s :: b)
  | x {i : Nat} {s : Sl} {a b : En} (t : LkE u (i + 1) a b) : LkE u i (s :: a) (.x :: b)
  | n {i : Nat} {d : Dt} {a b : En} (t : LkE u (i + 1) a b) : LkE u i (.d d :: a) (.lk (u i) .n :: b)
  | r {i : Nat} {kvs : KD} {a b : En} (h : ndL (kvs.map Prod.snd) = true) (t : LkE u (i + 1) a b) : LkE u i (.d (dk kvs) :: a) (.lk (u i) (.r kvs) :: b)
/-- .. and behind it again -/
inductive UnE (u : Nat → V) : Nat → En → En → En → Prop where
  | nil {i : Nat} : UnE u i [] [] []
  | s {i : Nat} {s0 s : Sl} {a b c : En} (h : ndS s = true) (t : UnE u (i + 1) a b c) : UnE u i (s0 :: a) (s :: b) (s :: c)
  | x {i : Nat} {s0 s : Sl} {a b c : En} (t : UnE u (i + 1) a b c) : UnE u i (s0 :: a) (s :: b) (.x :: c)
  | d {i : Nat} {d : Dt} {x : LkI} {a b c : En} (t : UnE u (i + 1) a b c) : UnE u i (.d d :: a) (.lk (u i) x :: b) (.d d :: c)
theorem LkE.len {u : Nat → V} : ∀ {i : Nat} {a b : En}, LkE u i a b → a.length = b.length
  | _, _, _, .nil => rfl
  | _, _, _, .s _ t => congrArg (· + 1) t.len
  | _, _, _, .x t => congrArg (· + 1) t.len
  | _, _, _, .n t => congrArg (· + 1) t.len
  | _, _, _, .r _ t => congrArg (· + 1) t.len
theorem UnE.len {u : Nat → V} : ∀ {i : Nat} {a b c : En}, UnE u i a b c → a.length = c.length ∧ b.length = c.length
  | _, _, _, _, .nil => ⟨rfl, rfl⟩
  | _, _, _, _, .s _ t => ⟨congrArg (· + 1) t.len.1, congrArg (· + 1) t.len.2⟩
  | _, _, _, _, .x t => ⟨congrArg (· + 1) t.len.1, congrArg (· + 1) t.len.2⟩
  | _, _, _, _, .d t => ⟨congrArg (· + 1) t.len.1, congrArg (· + 1) t.len.2⟩
end Mw
set_option maxHeartbeats 1000000
namespace Mw
open PySem PySem.Spec PyProof.Rows L2 Qw
open Evl hiding ea_cons
open Pw (Dt Rp RpL Wk R2d R1d RLd RLn Kq KqL none_sub spX2 get_set set_same set_ne rangeD rangeD_len py pyL fl flatD)
end Mw
set_option maxHeartbeats 1000000
namespace Mw
open PySem PySem.Spec PyProof.Rows L2 Qw
open Evl hiding ea_cons
open Pw (Dt Rp RpL Wk R2d R1d RLd RLn Kq KqL none_sub spX2 get_set set_same set_ne rangeD rangeD_len py pyL fl flatD)
end Mw
set_option maxHeartbeats 1000000
namespace Mw
open PySem PySem.Spec PyProof.Rows L2 Qw
open Evl hiding ea_cons
open Pw (Dt Rp RpL Wk R2d R1d RLd RLn Kq KqL none_sub spX2 get_set set_same set_ne rangeD rangeD_len py pyL fl flatD)
open AutoSeq1 (wpAny_loadPart')
end Mw
set_option maxHeartbeats 1000000
namespace Qw
open PySem PySem.Spec PyProof.Rows L2 Evl
end Qw
namespace Mw
open PySem PySem.Spec PyProof.Rows L2 Qw
open Evl hiding ea_cons
open Pw (Dt Rp RpL Wk R2d R1d RLd RLn Kq KqL none_sub spX2 get_set set_same set_ne)
section
variable {P : Program} {w : World} {K : PySem.W.Frag} {W Wout : WX} {eX eB : En} {σ τ ρ : Type} {env : En}
/-- what is raised of the classes l1 goes to h1, of l2 to h2 -/
def R.catch2 (l1 l2 : List Str) (m h1 h2 : R (Ctl σ τ ρ)) : R (Ctl σ τ ρ) := match m with
  | .ex x => if l1.contains x.C = true then h1 else if l2.contains x.C = true then h2 else .no
  | m => m
@[simp] theorem catch2_ok {l1 l2 : List Str} {c : Ctl σ τ ρ} {h1 h2 : R (Ctl σ τ ρ)} : R.catch2 l1 l2 (.ok c) h1 h2 = .ok c := rfl
end
end Mw
set_option maxHeartbeats 1000000
namespace Qw
open PySem PySem.Spec PyProof.Rows L2 Evl
open Pw (Dt Rp RpL Wk none_sub get_set set_same set_ne R2d R1d RLd RLn Kq KqL)
end Qw
namespace Mw
open PySem PySem.Spec PyProof.Rows L2 Evl Qw
open Pw (Dt Rp RpL Wk none_sub get_set set_same set_ne R2d R1d RLd RLn Kq KqL)
section
variable {P : Program} {w : World} {K : PySem.W.Frag} {W : WX} {eX : En} {env : En} {α β γ δ σ σ' τ ρ : Type}
theorem pyS_p4 {α1 α2 α3 α4 : Type} {n1 n2 n3 n4 : Nat} {e1 : α1 → Dt} {e2 : α2 → Dt} {e3 : α3 → Dt} {e4 : α4 → Dt} {o1 : α1 → Bool} {o2 : α2 → Bool} {o3 : α3 → Bool} {o4 : α4 → Bool} (h1 : PyS n1 e1 o1) (h2 : PyS n2 e2 o2) (h3 : PyS n3 e3 o3) (h4 : PyS n4 e4 o4) :
    PyS (max (max n1 n2) (max n3 n4) + 1) (eP4 e1 e2 e3 e4) fun x => o1 x.1 && (o2 x.2.1 && (o3 x.2.2.1 && o4 x.2.2.2)) := by
  obtain ⟨p, a1, a2, a3, a4⟩ := h1
  obtain ⟨q, b1, b2, b3, b4⟩ := h2
  obtain ⟨r, c1, c2, c3, c4⟩ := h3
  obtain ⟨s, d1, d2, d3, d4⟩ := h4
  refine ⟨fun x => .tuple [p x.1, q x.2.1, r x.2.2.1, s x.2.2.2], fun x => ?_, fun x hx => ?_, fun x => ?_, fun a b => ?_⟩
  · show (match Pw.py (e1 x.1), (match Pw.py (e2 x.2.1), (match Pw.py (e3 x.2.2.1), (match Pw.py (e4 x.2.2.2), Pw.pyL [] with | some p, some ps => some (p :: ps) | _, _ => none) with | some p, some ps => some (p :: ps) | _, _ => none) with | some p, some ps => some (p :: ps) | _, _ => none) with | some p, some ps => some (p :: ps) | _, _ => none).map PyData.tuple = _
    rw [a1, b1, c1, d1]
    rfl
  · rw [Bool.and_eq_true, Bool.and_eq_true, Bool.and_eq_true] at hx
    show ((p x.1).canLay0 && ((q x.2.1).canLay0 && ((r x.2.2.1).canLay0 && ((s x.2.2.2).canLay0 && true)))) = true
    rw [a2 _ hx.1, b2 _ hx.2.1, c2 _ hx.2.2.1, d2 _ hx.2.2.2]
    rfl
  · show max (p x.1).depth (max (q x.2.1).depth (max (r x.2.2.1).depth (max (s x.2.2.2).depth 0))) + 1 ≤ _
    have := a3 x.1
    have := b3 x.2.1
    have := c3 x.2.2.1
    have := d3 x.2.2.2
    omega
  · show (PyData.eqv (p a.1) (p b.1) && (PyData.eqv (q a.2.1) (q b.2.1) && (PyData.eqv (r a.2.2.1) (r b.2.2.1) && (PyData.eqv (s a.2.2.2) (s b.2.2.2) && true)))) = true ↔ _
    rw [Bool.and_true, Bool.and_eq_true, Bool.and_eq_true, Bool.and_eq_true, a4, b4, c4, d4]
    exact ⟨fun h => Prod.ext h.1 (Prod.ext h.2.1 (Prod.ext h.2.2.1 h.2.2.2)), fun h => by rw [h]; exact ⟨rfl, rfl, rfl, rfl⟩⟩
theorem pyS_p3 {α1 α2 α3 : Type} {n1 n2 n3 : Nat} {e1 : α1 → Dt} {e2 : α2 → Dt} {e3 : α3 → Dt} {o1 : α1 → Bool} {o2 : α2 → Bool} {o3 : α3 → Bool} (h1 : PyS n1 e1 o1) (h2 : PyS n2 e2 o2) (h3 : PyS n3 e3 o3) :
    PyS (max n1 (max n2 n3) + 1) (eP3 e1 e2 e3) fun x => o1 x.1 && (o2 x.2.1 && o3 x.2.2) := by
  obtain ⟨p, a1, a2, a3, a4⟩ := h1
  obtain ⟨q, b1, b2, b3, b4⟩ := h2
  obtain ⟨r, c1, c2, c3, c4⟩ := h3
  refine ⟨fun x => .tuple [p x.1, q x.2.1, r x.2.2], fun x => ?_, fun x hx => ?_, fun x => ?_, fun a b => ?_⟩
  · show (match Pw.py (e1 x.1), (match Pw.py (e2 x.2.1), (match Pw.py (e3 x.2.2), Pw.pyL [] with | some p, some ps => some (p :: ps) | _, _ => none) with | some p, some ps => some (p :: ps) | _, _ => none) with | some p, some ps => some (p :: ps) | _, _ => none).map PyData.tuple = _
    rw [a1, b1, c1]
    rfl
  · rw [Bool.and_eq_true, Bool.and_eq_true] at hx
    show ((p x.1).canLay0 && ((q x.2.1).canLay0 && ((r x.2.2).canLay0 && true))) = true
    rw [a2 _ hx.1, b2 _ hx.2.1, c2 _ hx.2.2]
    rfl
  · show max (p x.1).depth (max (q x.2.1).depth (max (r x.2.2).depth 0)) + 1 ≤ _
    have := a3 x.1
    have := b3 x.2.1
    have := c3 x.2.2
    omega
  · show (PyData.eqv (p a.1) (p b.1) && (PyData.eqv (q a.2.1) (q b.2.1) && (PyData.eqv (r a.2.2) (r b.2.2) && true))) = true ↔ _
    rw [Bool.and_true, Bool.and_eq_true, Bool.and_eq_true, a4, b4, c4]
    exact ⟨fun h => Prod.ext h.1 (Prod.ext h.2.1 h.2.2), fun h => by rw [h]; exact ⟨rfl, rfl, rfl⟩⟩
end
end Mw
set_option maxHeartbeats 1000000
namespace Mw
open PySem PySem.Spec PyProof.Rows L2 Qw
open Evl hiding ea_cons
open Pw (Dt Rp RpL Wk)
end Mw
set_option maxHeartbeats 1000000
namespace Lx
open PySem PySem.Spec PyProof.Rows L2
end Lx
set_option maxHeartbeats 1000000
namespace Lx
open PySem PySem.Spec PyProof.Rows L2
end Lx
set_option maxHeartbeats 1000000
namespace Mw
open PySem PySem.Spec PyProof.Rows L2 Qw
open Evl hiding ea_cons
open Pw (Dt Rp RpL Wk R2d R1d RLd RLn Kq KqL none_sub spX2 get_set set_same set_ne rangeD rangeD_len)
end Mw
namespace Qw
open PySem PySem.Spec PyProof.Rows L2 Evl
end Qw
set_option maxHeartbeats 1000000
namespace Qw
open PySem PySem.Spec PyProof.Rows L2 Evl
open Pw (Dt Rp RpL Wk none_sub get_set set_same set_ne R2d R1d RLd RLn Kq KqL)
section
variable {P : Program} {w : World} {K : PySem.W.Frag} {env : En} {σ : L2.St} {F0 H0 F H X : Hp}
/-- X over H0 -/
def ovr (X H0 : Hp) : Hp := fun a => (X a).or (H0 a)
theorem ovr_some {a : Addr} {o : HO} (h : X a = some o) : ovr X H0 a = some o := by unfold ovr; rw [h]; rfl
theorem ovr_none {a : Addr} (h : X a = none) : ovr X H0 a = H0 a := by unfold ovr; rw [h]; rfl
def Ext (F H : Hp) (σ : L2.St) (env : En) (X : Hp) : Prop := ∀ a o, X a = some o → H a = some o ∧ F a = none ∧ ¬ Own σ env a
theorem Sm.rebase {H1 : Hp} (S : Sm P w K F0 H0 F H σ env) (e0 : Ex F0 H1) (h : Ex H1 H) (n : ∀ a o, H1 a = some o → F0 a = none → F a = none) (no : ∀ a, Own σ env a → H1 a = none) : Sm P w K F0 H1 F H σ env :=
  ⟨e0, ⟨S.g.f, h, S.g.s, n⟩, S.len, fun i s e => by
    obtain ⟨v, h1, h2⟩ := S.sl i s e
    refine ⟨v, h1, ?_⟩
    cases s with
    | x => trivial
    | u => exact h2
    | d d => exact h2
    | ex a od e => exact h2
    | lk y x => exact h2
    | ow t u =>
      obtain ⟨q, z, ev, g0, g1, g2, g3, g4⟩ := h2
      exact ⟨q, z, ev, g0, g1, no q ⟨i, t, u, e, by rw [h1, ev]⟩, g3, g4⟩, S.df⟩
theorem Sm.base (S : Sm P w K F0 H0 F H σ env) (hX : Ext F H σ env X) : Sm P w K F0 (ovr X H0) F H σ env :=
  S.rebase (fun a o e => by
    cases q : X a with
    | none => rw [ovr_none q]; exact S.e0 a o e
    | some u =>
      have := (hX a u q).2.1
      rw [S.g.f a o e] at this; cases this)
  (fun a o e => by
    cases q : X a with
    | none => rw [ovr_none q] at e; exact S.g.h a o e
    | some u => rw [ovr_some q] at e; cases e; exact (hX a _ q).1)
  (fun a o e n => by
    cases q : X a with
    | none => rw [ovr_none q] at e; exact S.g.n a o e n
    | some u => exact (hX a u q).2.1)
  fun a z => by
    cases q : X a with
    | none =>
      rw [ovr_none q]
      obtain ⟨i, t, u, e, h1⟩ := z
      obtain ⟨p, o, h2, _, _, h3, _⟩ := S.own e
      rw [h2] at h1; cases h1
      exact h3
    | some u => exact absurd z (hX a u q).2.2
/-- what of X is new -/
def Fresh (F0 H0 X : Hp) : Prop := ∀ a o, X a = some o → H0 a = none ∧ F0 a = none
theorem Fresh.ex (f : Fresh F0 H0 X) : Ex H0 (ovr X H0) := fun a o h => by
  cases q : X a with
  | none => rw [ovr_none q]; exact h
  | some u => rw [(f a u q).1] at h; cases h
theorem Ext.of (S : Sm P w K F0 (ovr X H0) F H σ env) (f : Fresh F0 H0 X) : Ext F H σ env X := fun a o h =>
  ⟨S.g.h a o (ovr_some h), S.g.n a o (ovr_some h) (f a o h).2, fun z => by
    obtain ⟨i, t, u, e1, h1⟩ := z
    obtain ⟨p, o, h2, _, _, h3, _⟩ := S.own e1
    rw [h2] at h1; cases h1
    rw [ovr_some h] at h3; cases h3⟩
/-- the list p of the lists qs that hold dss -/
structure NL (K : PySem.W.Frag) (F X : Hp) (p : Addr) (qs : List Addr) (dss : List (List Dt)) : Prop where
  out : X p = some (.lst (qs.map V.ref))
  len : qs.length = dss.length
  inn : ∀ (i : Nat) (q : Addr) (ds : List Dt), qs[i]? = some q → dss[i]? = some ds → ∃ vs, X q = some (.lst vs) ∧ RpL K F ds vs
  nod : (p :: qs).Nodup
theorem NL.mono {F' : Hp} {p : Addr} {qs : List Addr} {dss : List (List Dt)} (n : NL K F X p qs dss) (e : Ex F F') : NL K F' X p qs dss :=
  ⟨n.out, n.len, fun i q ds h1 h2 => by
    obtain ⟨vs, a, b⟩ := n.inn i q ds h1 h2
    exact ⟨vs, a, b.mono e⟩, n.nod⟩
end
end Qw
set_option maxHeartbeats 1000000
namespace Mw
open PySem PySem.Spec PyProof.Rows L2 Qw
open Evl hiding ea_cons
open Pw (Dt Rp RpL Wk R2d R1d RLd RLn Kq KqL none_sub spX2 get_set set_same set_ne rangeD rangeD_len)
end Mw
set_option maxHeartbeats 1000000
namespace Mw
open PySem PySem.Spec PyProof.Rows L2 Qw
open Evl hiding ea_cons
open Pw (Dt Rp RpL Wk R2d R1d RLd RLn Kq KqL none_sub spX2 get_set set_same set_ne rangeD rangeD_len)
open PySem.W (AllAlike Sortable dataLe dataLt alike EachIs)
end Mw
set_option maxHeartbeats 1000000
namespace Lx
open PySem PySem.Spec PyProof.Rows L2
section
variable {prog : Program} {w : World} {A : Around} {R : Result → Shared → Prop} {s : Shared} {elt : Expr} {gens : List Comprehension} {scope : Scope} {pos : Pos} {k : Nat} {it acc : Value} {env : Env} {t i : Expr}
abbrev none' : Value → Shared → Prop := fun _ _ => False
/-- what is wanted of what a turn does behind its target: that P holds then -/
def BodyWp (prog : Program) (w : World) (A : Around) (elt : Expr) (gens : List Comprehension) (scope : Scope) (pos : Pos) (k : Nat) (acc : Value) (env : Env) (P : Shared → Prop) (s : Shared) : Prop :=
  (gens[k + 1]? = none ∧ wpAny (model prog w) A (eval elt env) (fun x s1 => wpAny (model prog w) A (call (.builtin "list.append") [acc, x]) (fun _ s2 => P s2) none' s1) none' s) ∨
  ∃ t1 i1, gens[k + 1]? = some ⟨t1, i1, [], 0⟩ ∧ (∀ x, foldedSetIterable i1 env x = pure x) ∧ wpAny (model prog w) A (eval i1 env) (fun x s1 => wpAny (model prog w) A (pyIter x) (fun it1 s2 =>
    codeAny (model prog w) A (.compStart (.ListComp elt gens scope pos) (k + 1) it1 acc env) (fun r s3 => match r with
      | .ok _ => P s3
      | .error _ => False) s2) none' s1) none' s
theorem BodyWp.mono {P P' : Shared → Prop} (h : BodyWp prog w A elt gens scope pos k acc env P s) (hp : ∀ s, P s → P' s) : BodyWp prog w A elt gens scope pos k acc env P' s := by
  rcases h with ⟨h1, h2⟩ | ⟨t1, i1, h1, h2, h3⟩
  · exact .inl ⟨h1, thnF h2 fun x s1 h3 => thnF h3 fun _ s2 h4 => hp s2 h4⟩
  · refine .inr ⟨t1, i1, h1, h2, thnF h3 fun x s1 h4 => thnF h4 fun it1 s2 h5 => codeAny_mono h5 fun r s3 hr => ?_⟩
    cases r with
    | ok _ => exact hp s3 hr
    | error _ => exact hr
end
/-- a clause: its source, its target, the names that it and those within it take -/
abbrev Cl := TI × TG × List Nat
def vsOf : List Cl → List Nat
  | [] => []
  | c :: _ => c.2.2
def tNest (te : TE) (D : Addr) : List Cl → L2.St → Hp → (Hp → Prop) → Prop
  | [], σ, H, N => te σ H fun y H' => ∃ acc, H' D = some (.lst acc) ∧ acc.length < sizeLine ∧ N (upd H' D (.lst (acc ++ [y])))
  | c :: cs, σ, H, N => c.1 σ H fun J H1 => ∃ W : Nat → Nat → Hp → Prop, (∃ m, W 0 m H1) ∧ ∀ i m H, W i m H →
      (J.stop i H ∧ N H) ∨ (J.go i H ∧ ∃ N' : Hp → Prop, (∀ H', N' H' → ∃ m', m' < m ∧ W (i + 1) m' H') ∧ ∀ x H', J.yld i H x H' →
        c.2.1 x (wipe σ c.2.2) H' fun σ2 H2 => wipe σ2 c.2.2 = wipe σ c.2.2 ∧ tNest te D cs σ2 H2 N')
def tLcN (wi : TI) (g : TG) (te : TE) (vs : List Nat) (cs : List Cl) : TE := fun σ H Q => wi σ H fun J H1 => ∀ D, H1 D = none → ∃ W : Nat → Nat → Hp → Prop, (∃ m, W 0 m (upd H1 D (.lst []))) ∧ ∀ i m H, W i m H →
  (J.stop i H ∧ Q (.ref D) H) ∨ (J.go i H ∧ ∃ N' : Hp → Prop, (∀ H', N' H' → ∃ m', m' < m ∧ W (i + 1) m' H') ∧ ∀ x H', J.yld i H x H' →
    g x (wipe σ vs) H' fun σ2 H2 => wipe σ2 vs = wipe σ vs ∧ tNest te D cs σ2 H2 N')
/-- the clauses behind the k-th, as they are written -/
def ClOk (B : Cx) (elt : Expr) (te : TE) (gens : List Comprehension) : Nat → List Nat → List Cl → Prop
  | k, _, [] => gens[k + 1]? = none ∧ PE B elt te
  | k, vs0, c :: cs => (∃ t i, gens[k + 1]? = some ⟨t, i, [], 0⟩ ∧ (∀ env x, foldedSetIterable i env x = pure x) ∧ PI B t i c.1 ∧ PG B t c.2.1 ∧ ∀ j ∈ c.2.2, j ∈ vs0) ∧ ClOk B elt te gens (k + 1) c.2.2 cs
theorem ClOk.sub {B : Cx} {elt : Expr} {te : TE} {gens : List Comprehension} : ∀ {k : Nat} {vs : List Nat} {cs : List Cl}, ClOk B elt te gens k vs cs → ∀ j ∈ vsOf cs, j ∈ vs
  | _, _, [], _ => fun j h => by simp [vsOf] at h
  | _, _, _ :: _, h => by
    obtain ⟨⟨t, i, _, _, _, _, h1⟩, _⟩ := h
    exact h1
end Lx
set_option maxHeartbeats 1000000
namespace Mw
open PySem PySem.Spec PyProof.Rows L2 Qw
open Evl hiding ea_cons
open Lx (Cl tNest tLcN)
open Pw (Dt Rp RpL Wk R2d R1d RLd RLn Kq KqL none_sub spX2 get_set set_same set_ne rangeD rangeD_len Wl)
/-- what clauses within one another give, as data -/
def NeOk (P : Program) (w : World) (K : PySem.W.Frag) (te : TE) : List Cl → En → List Dt → Prop
  | [], env, l => ∃ d, l = [d] ∧ Ep P w K te env d
  | c :: cs, env, l => ∃ (ds : List Dt) (inner : Nat → List Dt), Ip P w K c.1 env ds ∧ l = (List.range ds.length).flatMap inner ∧
      ∀ i d, ds[i]? = some d → ∃ e1, Gc P w K c.2.1 c.2.2 d (wipeE env c.2.2) e1 ∧ NeOk P w K te cs e1 (inner i)
section
variable {P : Program} {w : World} {K : PySem.W.Frag} {te : TE}
theorem flat_le {inner : Nat → List Dt} {i n : Nat} (h : i ≤ n) : ((List.range i).flatMap inner).length ≤ ((List.range n).flatMap inner).length := by
  obtain ⟨k, rfl⟩ := Nat.exists_eq_add_of_le h
  rw [List.range_add, List.flatMap_append, List.length_append]
  omega
end
section
variable {α β : Type} {P : Program} {w : World} {K : PySem.W.Frag} {W : WX} {eX : En} {env : En} {te : TE} {wi : TI} {g : TG} {d : α → Dt} {e : β → Dt}
def Xn (P : Program) (w : World) (K : PySem.W.Frag) (W : WX) (eX : En) (te : TE) (cs : List Cl) (env : En) (m : R (List β)) (e : β → Dt) : Prop := match m with
  | .ok l => NeOk P w K te cs env (l.map e)
  | _ => True
end
end Mw
set_option maxHeartbeats 1000000
namespace Mw
open PySem PySem.Spec PyProof.Rows L2 Qw
open Evl hiding ea_cons
open Pw (Dt Rp RpL Wk R2d R1d RLd RLn Kq KqL none_sub spX2 get_set set_same set_ne rangeD rangeD_len)
def notInDR (d e : Dt) : R Bool := match Pw.py d, Pw.py e with
  | some p, some (.list ps) => if (SeqAt.shaped p && SeqAt.shaped (.list ps)) = true then .ok (!ps.any fun z => PyData.eqv z p) else .no
  | _, _ => .no
theorem rm_notInDD {K : PySem.W.Frag} {d e : Dt} : R2m K (rNotInD K) d e (notInDR d e) eB := by
  unfold notInDR
  split
  · rename_i p ps hp hq
    show R2m K _ _ _ (if _ then _ else _) eB
    split
    · rename_i h
      rw [Bool.and_eq_true] at h
      exact fun F H x y s r1 r2 Q k => ⟨p, ps, Pw.dp_mono s (r1.dp hp), Pw.dp_mono s (r2.dp hq), h.1, h.2, k _ F H (Wk.refl s) rfl⟩
    · trivial
  · trivial
end Mw
set_option maxHeartbeats 1000000
namespace Mw
open PySem PySem.Spec PyProof.Rows L2 Qw
open Evl hiding ea_cons
open Pw (tyD isL isTp tyX_of Dt Rp RpL Wk R2d R1d RLd RLn Kq KqL none_sub spX2 get_set set_same set_ne rangeD rangeD_len)
end Mw
set_option maxHeartbeats 1000000
namespace Mw
open PySem PySem.Spec PyProof.Rows L2 Qw
open Evl hiding ea_cons
open Pw (Dt Rp RpL Wk)
abbrev KX := List (NestedKey × Addr × Addr)
def kxV (xs : KX) : List (NestedKey × Addr × Value) := xs.map fun x => (x.1, x.2.1, Value.ref x.2.2)
def KDo (P : Program) (w : World) (a : Addr) (xs : KX) : HO := .ext fun h => (a == sysModules) = false ∧ ∃ o es ep, h.get? a = some o ∧ o.ExactDict ∧ o.data = .dict es ep ∧ es.toList = (kxV xs).map (entryOfKey (nestedKind P w)) ∧ ((kxV xs).map (·.1)).Nodup
end Mw
set_option maxHeartbeats 1000000
namespace Mw
open PySem PySem.Spec PyProof.Rows L2 Qw
open Evl hiding ea_cons
open Pw (Dt Rp RpL Wk R2d R1d RLd RLn Kq KqL none_sub get_set set_same set_ne)
abbrev GRow := List (List Int)
def rowK (r : GRow) : NestedKey := .tup (r.map fun l => .tup (l.map .num))
structure KL (P : Program) (w : World) (K : PySem.W.Frag) (F X : Hp) (p : Addr) (xs : KX) (st : List (GRow × List Dt)) : Prop where
  out : X p = some (KDo P w p xs)
  len : xs.length = st.length
  inn : ∀ (i : Nat) x s, xs[i]? = some x → st[i]? = some s → x.1 = rowK s.1 ∧ Rp K F (eT (eT eI) s.1) (.ref x.2.1) ∧ ∃ vs, X x.2.2 = some (.lst vs) ∧ RpL K F s.2 vs
  nod : (p :: xs.map fun x => x.2.2).Nodup
section
variable {P : Program} {w : World} {K : PySem.W.Frag} {F F' X H : Hp} {p : Addr} {xs : KX} {st : List (GRow × List Dt)}
theorem KL.mono (n : KL P w K F X p xs st) (e : Ex F F') : KL P w K F' X p xs st :=
  ⟨n.out, n.len, fun i x s h1 h2 => by
    obtain ⟨a, b, vs, c, d⟩ := n.inn i x s h1 h2
    exact ⟨a, b.mono e, vs, c, d.mono e⟩, n.nod⟩
end
end Mw
set_option maxHeartbeats 1600000
namespace Ts
open PySem PySem.Spec PyProof.Rows L2
/-- a table that can be walked -/
structure TabW (w : World) (es : Array (Int × Value)) (t : SetTable) : Prop where
  few : es.size < scanBound
  fit : t.fits es.size = true
  ris : Ris t.place.toList
  led : w.params.followText "set-order" = true ∨ t.led = true
/-- the entry of the text y -/
def EntS (w : World) (y : Str) (e : Int × Value) : Prop := ∃ tk, e = (hashStr w y, Value.str y tk)
/-- the set of the texts ys, in the table's order -/
def TxtAt (w : World) (h : Heap) (a : Addr) (ys : List Str) : Prop := ∃ o es ep t, h.get? a = some o ∧ o.ExactSet ∧ o.data = .set es ep t ∧ Paired (EntS w) ys es.toList ∧ TabW w es t
section
variable {P : Program} {w : World} {A : Around} {E : Value → Shared → Prop} {s : Shared} {a : Addr}
theorem TxtAt.move {h h' : Heap} {ys : List Str} (T : TxtAt w h a ys) (k : ∀ o, h.get? a = some o → h'.get? a = some o) : TxtAt w h' a ys :=
  let ⟨o, es, ep, t, e, r⟩ := T
  ⟨o, es, ep, t, k o e, r⟩
theorem ent_elems {ys : List Str} {l : List (Int × Value)} (p : Paired (EntS w) ys l) : ElemsOf (PySem.strKind P w) l := by
  induction p with
  | nil => exact fun e z => nomatch z
  | cons h _ ih =>
    intro e z
    rcases List.mem_cons.mp z with rfl | z
    · obtain ⟨tk, rfl⟩ := h
      exact ⟨⟨_, strKind_is P w _ tk, rfl⟩, rfl⟩
    · exact ih e z
theorem ent_find {ys : List Str} {l : List (Int × Value)} {y : Str} (p : Paired (EntS w) ys l) : (∃ e ∈ l, (PySem.strKind P w).is y e.2 = true) ↔ y ∈ ys := by
  induction p with
  | nil => simp
  | @cons x e xs l h _ ih =>
    obtain ⟨tk, rfl⟩ := h
    have q : (PySem.strKind P w).is y (Value.str x tk) = true ↔ y = x := by
      constructor
      · intro z
        have z : Value.isStrOf y (Value.str x tk) = true := z
        exact Value.isStrOf_inj _ _ _ z (strKind_is P w x tk)
      · rintro rfl
        exact strKind_is P w _ tk
    constructor
    · rintro ⟨e, z, i⟩
      rcases List.mem_cons.mp z with rfl | z
      · rw [q.mp i]; exact List.mem_cons_self
      · exact List.mem_cons_of_mem _ (ih.mp ⟨e, z, i⟩)
    · intro z
      rcases List.mem_cons.mp z with z | z
      · exact ⟨_, List.mem_cons_self, q.mpr z⟩
      · obtain ⟨e, z, i⟩ := ih.mpr z
        exact ⟨e, List.mem_cons_of_mem _ z, i⟩
/-- a pairing goes along when its right side is shuffled -/
theorem paired_perm {α β : Type} {R : α → β → Prop} : ∀ {l l' : List β}, l.Perm l' → ∀ {xs : List α}, Paired R xs l → ∃ xs', xs.Perm xs' ∧ Paired R xs' l' := by
  intro l l' h
  induction h with
  | nil => exact fun p => ⟨_, .rfl, p⟩
  | cons b _ ih =>
    intro xs p
    cases p with
    | cons h t =>
      obtain ⟨xs', q, r⟩ := ih t
      exact ⟨_ :: xs', q.cons _, .cons h r⟩
  | swap b c l =>
    intro xs p
    cases p with
    | cons h t =>
      cases t with
      | cons h' t' => exact ⟨_ :: _ :: _, List.Perm.swap _ _ _, .cons h' (.cons h t')⟩
  | trans _ _ i1 i2 =>
    intro xs p
    obtain ⟨x1, q1, r1⟩ := i1 p
    obtain ⟨x2, q2, r2⟩ := i2 r1
    exact ⟨x2, q1.trans q2, r2⟩
/-- the table is put there, and laid anew where it is too full -/
theorem put_table {g : Bool → Sem Unit} (calm : ∀ (b : Bool) (s₁ : Shared) (R : Unit → Shared → Prop), R () s₁ → wpAny (model P w) A (g b) R E s₁) {o : Obj} {old new : Array (Int × Value)} {ep : Nat} {t u : SetTable}
    (here : s.heap.get? a = some o) (what : o.data = .set old ep t) (W : TabW w new u) {skip : Bool} {Q : Option Bool → Shared → Prop}
    (fin : ∀ h' es ep' t', Heap.SameBut a s.heap h' → h'.get? a = some { o with data := .set es ep' t' } → es.toList.Perm new.toList → TabW w es t' → Q (some true) { s with heap := h' }) :
    wpAny (model P w) A (do
        storeSet a new u
        if (!skip && u.tooFull) = true then do
            g (relayAll u new (SetTable.grown new.size)).2.2
            storeSet a (relayAll u new (SetTable.grown new.size)).1 (relayAll u new (SetTable.grown new.size)).2.1
            pure (some true)
          else pure (some true)) Q E s := by
  have first := store_at (es' := new) (t' := u) here what
  have same := Heap.SameBut.update s.heap a (Obj.putSet new u)
  refine wpAny_bind (wpAny_storeSet_of here what ?_ (fits_of_scanBound W.few))
  by_cases full : (!skip && u.tooFull) = true
  · rw [if_pos full]
    have P1 := relayAll_perm u new (SetTable.grown new.size)
    have L : (relayAll u new (SetTable.grown new.size)).1.size = new.size := by rw [← Array.length_toList, P1.length_eq, Array.length_toList]
    have W2 : TabW w (relayAll u new (SetTable.grown new.size)).1 (relayAll u new (SetTable.grown new.size)).2.1 :=
      ⟨by rw [L]; exact W.few, relayAll_fits u new _, relayAll_ris u new _, W.led.imp id fun z => (relayAll_led u new _).trans z⟩
    refine wpAny_bind (calm _ _ _ (wpAny_bind (wpAny_storeSet_of first rfl ?_ (fits_of_scanBound W2.few))))
    have second := store_at (es' := (relayAll u new (SetTable.grown new.size)).1) (t' := (relayAll u new (SetTable.grown new.size)).2.1) first rfl
    exact wpAny_pure (fin _ _ _ _ (same.trans (Heap.SameBut.update _ a _)) second P1 W2)
  · rw [if_neg full]
    exact wpAny_pure (fin _ _ _ _ same first .rfl W)
/-- a text is added -/
theorem txt_add {ys : List Str} {y : Str} {tk : Tok} {Q : Bool → Shared → Prop} (T : TxtAt w s.heap a ys) (room : ys.length + 1 < scanBound)
    (there : y ∈ ys → Q false s) (anew : y ∉ ys → ∀ h' zs, Heap.SameBut a s.heap h' → zs.Perm (y :: ys) → TxtAt w h' a zs → Q true { s with heap := h' }) :
    wpAny (model P w) A (setAddHashed a (.str y tk) ((PySem.strKind P w).hash y)) Q E s := by
  obtain ⟨o, es, ep, t, here, exact_, what, pr, W⟩ := T
  have isY : (PySem.strKind P w).is y (.str y tk) = true := strKind_is P w y tk
  have elems : ElemsOf (PySem.strKind P w) es.toList := ent_elems pr
  have scan : (Value.str y tk).scannable = true := rfl
  have size : es.size = ys.length := by rw [← Array.length_toList]; exact (Paired.length pr).symm
  unfold setAddHashed setAddHashedIn
  refine wpAny_holding (wpAny_bind (wpAny_setState_of here what W.fit ?_))
  simp only [byScan_of scan W.few elems, if_true]
  unfold setAddByScan
  refine wpAny_bind (wpAny_bind (wpAny_rule (wpAny_bind (wpAny_setScan_of isY here what W.fit elems ?_))))
  cases found : es.toList.findIdx? (fun e => (PySem.strKind P w).is y e.2) with
  | some j =>
    obtain ⟨lt, yes, _⟩ := List.findIdx?_eq_some_iff_getElem.mp found
    exact wpAny_pure (wpAny_pure (there ((ent_find pr).mp ⟨_, List.getElem_mem lt, yes⟩)))
  | none =>
    have new : y ∉ ys := fun z => by
      obtain ⟨e, he, q⟩ := (ent_find (P := P) pr).mpr z
      have := List.findIdx?_eq_none_iff.mp found e he
      rw [q] at this
      cases this
    have P0 := layNew_perm t es ((PySem.strKind P w).hash y) (.str y tk)
    have F0 := layNew_fits t es ((PySem.strKind P w).hash y) (.str y tk)
    have R0 := layNew_ris t es ((PySem.strKind P w).hash y) (.str y tk) W.ris
    have L0 := layNew_led t es ((PySem.strKind P w).hash y) (.str y tk)
    simp only
    generalize layNew t es ((PySem.strKind P w).hash y) (.str y tk) = Z at P0 F0 R0 L0 ⊢
    obtain ⟨es1, t1, dummy, gave⟩ := Z
    simp only at P0 F0 R0 L0 ⊢
    rw [Array.toList_push] at P0
    have P1 : ((hashStr w y, Value.str y tk) :: es.toList).Perm es1.toList := (P0.trans (List.perm_append_singleton _ _)).symm
    have size1 : es1.size < scanBound := by
      rw [← Array.length_toList, ← P1.length_eq, List.length_cons, Array.length_toList, size]
      exact room
    have W1 : TabW w es1 t1 := ⟨size1, F0, R0, W.led.imp id fun z => L0.trans z⟩
    have quiet : ∀ (b : Bool) (s₁ : Shared) (R : Unit → Shared → Prop), R () s₁ → wpAny (model P w) A (match b with | true => rule "set.scan.the-table-gave-way" | false => pure ()) R E s₁ := fun b s₁ R q => by
      cases b <;> first | exact wpAny_pure q | exact wpAny_rule q
    have fin : ∀ h' es' ep' t', Heap.SameBut a s.heap h' → h'.get? a = some { o with data := .set es' ep' t' } → es'.toList.Perm es1.toList → TabW w es' t' → Q true { s with heap := h' } := fun h' es' ep' t' sb at' pm W' => by
      obtain ⟨zs, q, r⟩ := paired_perm (P1.trans pm.symm) (Paired.cons (⟨tk, rfl⟩ : EntS w y (hashStr w y, Value.str y tk)) pr)
      exact anew new h' zs sb q.symm ⟨_, es', ep', t', at', exact_, rfl, r, W'⟩
    refine wpAny_bind (quiet _ _ _ ?_)
    have off : TabW w es1 { t1 with plain := false } := ⟨W1.few, SetTable.fits_plain_off W1.fit, W1.ris, W1.led⟩
    by_cases pl : t1.plain = true
    · rw [if_pos pl]
      refine wpAny_bind ?_
      rw [hashByValue_scannable 8 scan]
      refine wpAny_pure (put_table ?_ here what ?_ ?_)
      · intro b s₁ R q
        cases b <;> first | exact wpAny_pure q | exact wpAny_rule q
      · split
        · exact W1
        · exact off
      · intro h' es' ep' t' sb at' pm W'
        exact wpAny_pure (fin h' es' ep' t' sb at' pm W')
    · rw [if_neg pl]
      refine wpAny_bind (wpAny_pure ?_)
      simp only [if_true]
      refine put_table ?_ here what W1 ?_
      · intro b s₁ R q
        cases b <;> first | exact wpAny_pure q | exact wpAny_rule q
      · intro h' es' ep' t' sb at' pm W'
        exact wpAny_pure (fin h' es' ep' t' sb at' pm W')
end
section
variable {prog : Program} {w : World} {A : Around} {R : Result → Shared → Prop} {I : Addr} {fp wr : List Addr}
  {G : Array GenState → Array GenState → Prop} {n : Nat} {Y : Nat → Value → Prop} {St : Nat → Shared → Prop}
def TUp (w : World) (S : Addr) (xs : List Str) (i : Nat) (h : Heap) : Prop := ∃ ys, TxtAt w h S ys ∧ ys.Nodup ∧ ys.length ≤ i ∧ ∀ y, y ∈ ys ↔ y ∈ xs.take i
theorem TUp.move {S : Addr} {xs : List Str} {i : Nat} {h h' : Heap} (q : TUp w S xs i h) (k : ∀ o, h.get? S = some o → h'.get? S = some o) : TUp w S xs i h' := by
  obtain ⟨ys, t, r⟩ := q
  exact ⟨ys, t.move k, r⟩
theorem updates (W : WalksS prog w A.in1 I fp wr G n Y St) (S : Addr) (nS : S ∉ fp) (xs : List Str)
    (hY : ∀ i v, Y i v → ∃ x, xs[i]? = some x ∧ RelV (.str x) v) (hb : n + 1 < scanBound) :
    ∀ (left i : Nat) (s : Shared), n - i = left → i ≤ n → St i s → TUp w S xs i s.heap →
      (∀ s', Moved (S :: wr) G s s' → TUp w S xs n s'.heap → R (.ok (.ret .none)) s') →
      codeAny (model prog w) A (.builtin "set.update.loop" ⟨[.ref S, .ref I], []⟩) R s := by
  have nw : S ∉ wr := fun z => nS (W.sub _ z)
  have sub : ∀ b ∈ wr, b ∈ S :: wr := fun b z => List.mem_cons_of_mem _ z
  intro left
  induction left with
  | zero =>
    intro i s e le st up done
    obtain rfl : i = n := by omega
    refine codeAny_builtin F.entry_set_update_loop ?_
    rw [Around.under_plainId F.plain_set_update_loop _]
    refine wpAny_bind (m := pyNext (.ref I)) (W.done s _ _ st fun s' hm => ?_)
    exact wpAny_pure (done s' (hm.mono sub) (up.move fun o z => hm.heap S _ nw z))
  | succ left ih =>
    intro i s e le st up done
    have lt : i < n := by omega
    refine codeAny_builtin F.entry_set_update_loop ?_
    rw [Around.under_plainId F.plain_set_update_loop _]
    refine wpAny_bind (m := pyNext (.ref I)) (W.item i s _ _ lt st fun v s' y st' hm => ?_)
    obtain ⟨x, hx, rx⟩ := hY i v y
    obtain ⟨tk, rfl⟩ := rx
    obtain ⟨ys, up', nd, ln, mm⟩ := up.move (h' := s'.heap) fun o z => hm.heap S _ nw z
    have isx : (PySem.strKind prog w).is x (.str x tk) = true := strKind_is prog w x tk
    have next : ∀ (b : Bool) (h2 : Heap), Heap.SameBut S s'.heap h2 → TUp w S xs (i + 1) h2 →
        wpAny (model prog w) A.in1 (pure b) (fun _ s2 => (Code.builtin "set.update.loop" ⟨[Value.ref S, Value.ref I], []⟩).quiet = true ∧ codeAny (model prog w) A (.builtin "set.update.loop" ⟨[.ref S, .ref I], []⟩) R s2) (fun e s2 => R (.error e) s2) { s' with heap := h2, toks := s'.toks + 1 } := fun b h2 sb up2 => by
      refine wpAny_pure ⟨plainId_quiet F.plain_set_update_loop _, ih (i + 1) _ (by omega) lt (W.frame _ s' _ _ st' (Nat.le_succ _) fun b hb o z => ?_) up2 fun s3 m3 u3 => ?_⟩
      · rw [sb.2 b (fun z : b = S => nS (z ▸ hb))]
        exact z
      · refine done s3 (Moved.trans W.gtrans ((hm.mono sub).then_heap (Nat.le_succ _) fun b o hb z => ?_) m3) u3
        rw [sb.2 b (fun z : b = S => hb (z ▸ List.mem_cons_self))]
        exact z
    refine wpAny_bind (m := holding [Value.str x tk] (setAdd S (Value.str x tk))) (wpAny_holding ?_)
    unfold setAdd
    refine wpAny_holding (wpAny_bind ((PySem.strKind prog w).pyHash isx ?_))
    refine txt_add (s := { s' with toks := s'.toks + 1 }) up' (by omega) (fun was => ?_) fun new h2 zs sb pm up2 => ?_
    · exact next false s'.heap (Heap.SameBut.refl S _) ⟨ys, up', nd, by omega, fun y => by
        rw [mm y, List.take_add_one, hx]
        have := (mm x).mp was
        simp only [Option.toList_some, List.mem_append, List.mem_singleton]
        exact ⟨.inl, fun z => z.elim id fun z => z ▸ this⟩⟩
    · exact next true h2 sb ⟨zs, up2, pm.nodup_iff.mpr (List.nodup_cons.mpr ⟨new, nd⟩), by rw [pm.length_eq, List.length_cons]; omega, fun y => by
        rw [pm.mem_iff, List.mem_cons, mm y, List.take_add_one, hx]
        simp only [Option.toList_some, List.mem_append, List.mem_singleton]
        exact Or.comm⟩
end
section
variable {prog : Program} {w : World} {A : Around} {E : Value → Shared → Prop} {s : Shared}
/-- what is known behind set(xs) -/
def TMade (w : World) (s : Shared) (xs : List Str) (h' : Heap) : Prop :=
  TUp w s.heap.objs.size xs xs.length h' ∧ ∀ b o, b < s.heap.objs.size → s.heap.get? b = some o → h'.get? b = some o
theorem strsAt : ∀ {xs : List Str} {us : List Value}, Vals (xs.map V.str) us → ∀ (i : Nat) (v : Value), us[i]? = some v → ∃ x : Str, xs[i]? = some x ∧ RelV (.str x) v
  | [], _, r, i, v, e => by
    cases r
    simp at e
  | x :: xs, _, r, 0, v, e => by
    cases r with
    | cons h t =>
      simp at e
      subst e
      exact ⟨x, rfl, h⟩
  | x :: xs, _, r, i + 1, v, e => by
    cases r with
    | cons h t => exact strsAt t i v (by simpa using e)
theorem strsLen : ∀ {xs : List Str} {us : List Value}, Vals (xs.map V.str) us → xs.length = us.length
  | [], _, r => by cases r; rfl
  | x :: xs, _, r => by
    cases r with
    | cons h t => simp [strsLen t]
theorem init_set {l : Addr} {items : Array Value} {xs : List Str} (led : Bool) (hled : w.params.followText "set-order" = true ∨ led = true) (calm : A.handled = none) (hl : s.heap.IsList l items)
    (hi : Vals (xs.map V.str) items.toList) (hb : xs.length + 1 < scanBound) :
    codeAny (model prog w) A (.call (.builtin "set.__init__") ⟨[.ref s.heap.objs.size, .ref l], []⟩)
      (wants (fun r s2 => r = .none ∧ ∃ h' tk, s2 = { s with heap := h', toks := tk } ∧ TMade w s xs h') E)
      { s with heap := s.heap.push (Qs.freshSet led) } := by
  have len : xs.length = items.size := by simpa using strsLen hi
  have atS : (s.heap.push (Qs.freshSet led)).get? s.heap.objs.size = some (Qs.freshSet led) := Heap.get?_push_size _ rfl
  have tyS : Shared.TypeIs { s with heap := s.heap.push (Qs.freshSet led) } (.ref s.heap.objs.size) "set" := ⟨_, atS, rfl⟩
  obtain ⟨ol, hol, hc, nl, hd⟩ := hl
  have ltL : l < s.heap.objs.size := Heap.lt_size hol
  obtain ⟨ocls, odict, odata, oslots⟩ := ol
  simp only at hc hd
  subst hc hd
  have atL : (s.heap.push (Qs.freshSet led)).get? l = some { cls := .type "list", dict := odict, data := .seq items nl, slots := oslots } := Heap.get?_push_of_some _ hol
  have isL : (s.heap.push (Qs.freshSet led)).IsList l items := ⟨_, atL, rfl, nl, rfl⟩
  refine codeAny_call_builtin PySem.F.called_set.init.plain PySem.F.entry_set_init (check_set_init_1 tyS ?_)
  have f1 := PySem.F.sub_list_set
  have f2 := PySem.F.sub_list_frozenset
  have f3 : (Value.type "list" == Value.type "dict") = false := by decide
  unfold Builtin.«set.__init__» noKeywords Builtin.Frozenset.updateFrom
  generalize walk : pyIter = it
  wp_walk
  subst walk
  refine wpAny_pyIter_list isL (wpAny_bind (wpAny_runValue ?_))
  have hh : A.in1.in1.handled = none := by simp [calm]
  have sz : (s.heap.push (Qs.freshSet led)).objs.size = s.heap.objs.size + 1 := Heap.size_push _ _
  have n1 : l ≠ (s.heap.push (Qs.freshSet led)).objs.size := by
    rw [sz]
    exact Nat.ne_of_lt (Nat.lt_succ_of_lt ltL)
  have n2 : s.heap.objs.size ∉ [(s.heap.push (Qs.freshSet led)).objs.size, l] := by
    rw [sz]
    simp only [List.mem_cons, List.not_mem_nil, or_false, not_or]
    exact ⟨Nat.ne_of_lt (Nat.lt_succ_self _), Nat.ne_of_gt ltL⟩
  refine updates (xs := xs) ((Walks.list hh _ l n1 items).toS) s.heap.objs.size n2 (fun i v hv => strsAt hi i v (by rw [Array.getElem?_toList]; exact hv))
    (by rw [← len]; exact hb) (items.size - 0) 0 _ (by omega) (Nat.zero_le _) ?start ?_ fun s' hm up => ?_
  case start => exact ⟨⟨_, Heap.get?_push_size _ rfl, rfl, rfl⟩, isL.push _⟩
  · have at2 : ((s.heap.push (Qs.freshSet led)).push { cls := .type "list_iterator", data := .fields #[.ref l, .int 0 0] }).get? s.heap.objs.size = some (Qs.freshSet led) := Heap.get?_push_of_some _ atS
    exact ⟨[], ⟨_, #[], 0, _, at2, ⟨rfl, rfl, rfl⟩, rfl, .nil, by decide, rfl, List.Pairwise.nil, hled⟩, List.nodup_nil, Nat.le_refl _, fun y => by simp⟩
  · obtain ⟨h', g', d', tk', os'⟩ := s'
    obtain rfl : g' = s.gens := hm.gens
    obtain rfl : d' = s.drawn := hm.drawn
    obtain rfl : os' = s.os := hm.os
    refine wpAny_pure (wpAny_pure ⟨rfl, h', tk', rfl, by rw [len]; exact up, fun b o hb e => ?_⟩)
    refine hm.heap b o ?_ (Heap.get?_push_of_some _ (Heap.get?_push_of_some _ e))
    rw [sz]
    simp only [List.mem_cons, List.not_mem_nil, or_false, not_or]
    exact ⟨Nat.ne_of_lt hb, Nat.ne_of_lt (Nat.lt_succ_of_lt hb)⟩
/-- set.__new__ with one argument: whether the table is led is told -/
theorem new_set_led (x : Value) {Q : Value → Shared → Prop} (q : Q (.ref s.heap.objs.size) { s with heap := s.heap.push (Qs.freshSet (!w.params.followText "set-order")) }) : codeAny (model prog w) A (.call (.builtin "set.__new__") ⟨[.type "set", x], []⟩) (wants Q E) s := by
  refine codeAny_of_tree ?_
  show wpAny _ A.in1 (checkBuiltinCall "set.__new__" ⟨[.type "set", x], []⟩ >>= fun _ => again (.builtin "set.__new__" ⟨[.type "set", x], []⟩)) _ _ s
  refine wpAny_bind (wpAny_of_eq (F.newCall_set_1 x) (wpAny_pure ⟨plainId_quiet F.plain_set_new _, codeAny_builtin F.entry_set_new ?_⟩))
  have own := sub_set_self
  rw [Around.under_plainId F.plain_set_new _]; unfold Builtin.«set.__new__» Builtin.Frozenset.newClass
  obtain ⟨hp, g, d, tk, os⟩ := s
  dsimp only; wp_walk; refine wpAny_askSetting (wpAny_pure ?_)
  dsimp only; simp only [newObj]
  exact wpAny_bind (wpAny_alloc (wpAny_pure (wpAny_pure q)))
theorem made_set {l : Addr} {items : Array Value} {xs : List Str} {Q : Value → Shared → Prop} (calm : A.handled = none) (hl : s.heap.IsList l items)
    (hi : Vals (xs.map V.str) items.toList) (hb : xs.length + 1 < scanBound)
    (fin : ∀ (h' : Heap) (tk : Nat), TMade w s xs h' → Q (.ref s.heap.objs.size) { s with heap := h', toks := tk }) :
    wpAny (model prog w) A (call (.type "set") [.ref l]) Q E s := by
  obtain ⟨c, tl, mro⟩ := PySem.F.called_set.mro
  have q1 := PySem.F.called_set.made
  have q2 := PySem.F.called_set.sub
  have q3 := PySem.F.called_set.notType
  have q4 := PySem.F.called_set.canCreate
  have q5 := PySem.F.typeCall_set_1 (.ref l)
  refine wpAny_call (codeAny_of_tree ?_)
  show wpAny _ _ (callAny (.type "set") _) _ _ _
  refine wpAny_pure ⟨Code.quiet_builtin _ (by decide +kernel), codeAny_builtin PySem.F.entry_type_call ?_⟩
  rw [Around.under_plain (weight_type_call_type "set" [.ref l] []) rfl]
  repeat (any_goals (first | assumption | wp_step))
  refine codeAny_mono (new_set_led (.ref l) (E := E) (Q := fun obj t => ∃ led : Bool, (w.params.followText "set-order" = true ∨ led = true) ∧ obj = .ref s.heap.objs.size ∧ t = { s with heap := s.heap.push (Qs.freshSet led) }) ⟨_, by cases w.params.followText "set-order" <;> simp, rfl, rfl⟩) fun r t hr => ?_
  cases r with
  | error e => exact hr
  | ok fl =>
    cases fl with
    | ret obj =>
      obtain ⟨led, hled, rfl, rfl⟩ := hr
      have tyS : Shared.TypeIs { s with heap := s.heap.push (Qs.freshSet led) } (.ref s.heap.objs.size) "set" := ⟨_, Heap.get?_push_size _ rfl, rfl⟩
      have q6 := PySem.F.called_set.init.lookup
      have q7 := PySem.F.called_set.init.bind (.ref s.heap.objs.size)
      repeat (any_goals (first | assumption | wp_step))
      refine codeAny_mono (init_set (E := E) led hled (by simp [calm]) hl hi hb) fun r2 s2 hr2 => ?_
      cases r2 with
      | error e => exact hr2
      | ok fl2 =>
        cases fl2 with
        | ret r =>
          obtain ⟨rfl, h', tk, rfl, made⟩ := hr2
          repeat (any_goals (first | assumption | wp_step))
          exact fin _ _ made
        | next => exact hr2.elim
        | brk => exact hr2.elim
        | cont => exact hr2.elim
    | next => exact hr.elim
    | brk => exact hr.elim
    | cont => exact hr.elim
theorem ent_strs {ys : List Str} {l : List (Int × Value)} (p : Paired (EntS w) ys l) : StrsAre (l.map (·.2)) ys := by
  induction p with
  | nil => exact .nil
  | cons h _ ih =>
    obtain ⟨tk, rfl⟩ := h
    exact .cons _ tk ih
theorem strs_perm {l l' : List Value} (h : l.Perm l') : ∀ {xs : List Str}, StrsAre l xs → ∃ xs', xs.Perm xs' ∧ StrsAre l' xs' := by
  induction h with
  | nil => exact fun p => ⟨_, .rfl, p⟩
  | cons b _ ih =>
    intro xs p
    cases p with
    | cons y t p =>
      obtain ⟨xs', q, r⟩ := ih p
      exact ⟨y :: xs', q.cons _, .cons y t r⟩
  | swap b c l =>
    intro xs p
    cases p with
    | cons y t p =>
      cases p with
      | cons z u p => exact ⟨z :: y :: _, List.Perm.swap _ _ _, .cons z u (.cons y t p)⟩
  | trans _ _ i1 i2 =>
    intro xs p
    obtain ⟨x1, q1, r1⟩ := i1 p
    obtain ⟨x2, q2, r2⟩ := i2 r1
    exact ⟨x2, q1.trans q2, r2⟩
/-- sorted(a), a a set of fewer than 64 texts -/
theorem sorted_txt {a : Addr} {ys : List Str} {Q : Value → Shared → Prop} (T : TxtAt w s.heap a ys) (calm : A.handled = none) (few : ys.length < 64)
    (fin : ∀ (s' : Shared) (p : Addr) (out : Array Value) (c : Nat) (zs : List Str), (∀ b o, s.heap.get? b = some o → s'.heap.get? b = some o) → s'.gens = s.gens → s'.os = s.os → s.heap.objs.size ≤ p →
      s'.heap.get? p = some (seqObj "list" out c) → StrsAre out.toList zs → zs.Perm ys → sortedS zs = true → Q (.ref p) s') :
    wpAny (model prog w) A (call (.builtin "sorted") [.ref a]) Q E s := by
  obtain ⟨o, es, ep, t, here, ex, what, pr, W⟩ := T
  refine Calls.call_function_entry kind_sorted plain_sorted entry_sorted (args_sorted1 _) ?_
  unfold Builtin.«sorted»
  refine wpAny_bind (m := checkCount "sorted" 1 1 _) (wpAny_pure (wpAny_bind (collect_set (A := A.in1) calm ⟨o, here, ex.1, what⟩ W.fit W.few W.ris W.led fun s1 vs k1 z1 g1 o1 pm => ?_)))
  obtain ⟨xs, px, vx⟩ := strs_perm pm.symm (ent_strs pr)
  have len : vs.length < 64 := by rw [vx.len_eq, ← px.length_eq]; exact few
  refine wpAny_bind (wpAny_newList ?_ (small64 len))
  have made : (s1.heap.push (seqObj "list" vs.toArray 0)).get? s1.heap.objs.size = some (seqObj "list" vs.toArray 0) := Heap.get?_push_size _ rfl
  refine wpAny_bind (wpAny_holding (wpAny_call_entry slot_list_sort ⟨_, made, rfl⟩ entry_list_sort (list_sort_treeK strKind_oneLt made vx.keysOf (fun v₁ v₂ rest e => keyKind_strs (by rw [← e]; exact vx)) len fun st hp hs => ⟨_, rfl, ?_⟩) (args_list_sort _)))
  obtain ⟨zs, a1, a2, a3⟩ := sorted_out_str vx hp hs
  obtain ⟨c, hc⟩ := sortedHeap_at (vs := vs) (out := (arrOf st).map (·.2)) made
  refine wpAny_pure ⟨_, rfl, fin _ s1.heap.objs.size _ c zs (fun b u e => ?_) g1 o1 z1 hc a1 (a2.trans px.symm) a3⟩
  have q := k1 b u e
  have lt := Heap.lt_size q
  show (sortedHeap _ _ _ _).get? b = some u
  rw [sortedHeap_old (Nat.ne_of_lt lt) (by rw [Heap.size_push]; exact Nat.lt_succ_of_lt lt)]
  exact Heap.get?_push_of_some _ q
end
/-- the set of the texts ys at a -/
def SetT (w : World) (a : Addr) (ys : List Str) : HO := .ext fun h => TxtAt w h a ys
theorem setT_new {P : Program} {w : World} {H : Hp} {h : Heap} {a : Addr} {ys : List Str} (T : TxtAt w h a ys) : ObjOk P w H h a (SetT w a ys) := by
  have ⟨o, _, _, _, e, _⟩ := T
  exact ⟨T, ⟨o, e⟩, fun h1 h2 p k => p.move k⟩
/-- set(xs) -/
def rSetT (K : PySem.W.Frag) (w : World) : List V → Hp → VK → Prop := fun vs H Q => ∃ (l : Addr) (xs : List Str), vs = [V.ref l] ∧ SqL K H l (xs.map V.str) ∧ xs.length ≤ 4000 ∧
  ∀ p ys, ys.Nodup → (∀ y, y ∈ ys ↔ y ∈ xs) → H p = none → Q (.ref p) (upd H p (SetT w p ys))
/-- sorted(set) -/
def rSortT (w : World) : List V → Hp → VK → Prop := fun vs H Q => ∃ (a : Addr) (ys : List Str), vs = [V.ref a] ∧ H a = some (SetT w a ys) ∧ ys.length < 64 ∧
  ∀ zs p, zs.Perm ys → sortedS zs = true → H p = none → Q (.ref p) (upd H p (.lst (zs.map V.str)))
section
variable {X : Cx}
theorem cr_setT (hc : X.calm = true) : CallR X (.type "set") (rSetT X.K X.w) := by
  intro pins s σ H vs us Q I r h
  obtain ⟨l, xs, rfl, hl, few, q⟩ := h
  rw [Vals.ref1 r]
  obtain ⟨its, rv, pl, _⟩ := I.list hl
  refine made_set (xs := xs) (I.ok.hd hc) pl.isList (by simpa using rv) (by unfold scanBound; omega) fun h' tk made => ?_
  obtain ⟨⟨ys, T, nd, _, mm⟩, keep⟩ := made
  rw [List.take_length] at mm
  exact ⟨.ref s.heap.objs.size, upd H s.heap.objs.size (SetT X.w s.heap.objs.size ys), I.laid (t' := tk) (fun b o e => keep b o (Heap.lt_size e) e) (Nat.le_refl _) (setT_new T), rfl, q _ ys nd mm (I.hok.fresh (Nat.le_refl _))⟩
theorem cr_sortT (hc : X.calm = true) : CallR X (.builtin "sorted") (rSortT X.w) := by
  intro pins s σ H vs us Q I r h
  obtain ⟨a, ys, rfl, ha, few, q⟩ := h
  rw [Vals.ref1 r]
  refine sorted_txt (I.hok a _ ha).1 (I.ok.hd hc) few fun s' p out c zs k g o hp hg hi pm hs => ?_
  have small : (zs.map V.str).length ≤ sizeLine := by rw [List.length_map, pm.length_eq]; exact small64 few
  have new : H p = none := I.hok.fresh hp
  have J : Inv X pins σ (upd H p (.lst (zs.map V.str))) { s with heap := s'.heap, gens := s'.gens, drawn := s'.drawn, toks := s'.toks } :=
    I.call (ch := []) (Un.laid k hp new) (I.hok.laid k hp ⟨small, out.toList, c, vals_of_strs hi, hg⟩) (by rw [g]; exact I.bare) (fun _ z => nomatch z)
  rw [show s' = { s with heap := s'.heap, gens := s'.gens, drawn := s'.drawn, toks := s'.toks } from by
    cases s'
    cases s
    cases o
    rfl]
  exact ⟨.ref p, _, J, rfl, q zs p pm hs new⟩
end
end Ts
namespace Mw
open PySem PySem.Spec PyProof.Rows L2 Qw Ts
open Evl hiding ea_cons
open Pw (Dt Rp RpL Wk)
/-- each text once -/
def onceS : List Str → List Str
  | [] => []
  | x :: xs => if x ∈ xs then onceS xs else x :: onceS xs
theorem once_mem {y : Str} : ∀ {xs : List Str}, y ∈ onceS xs ↔ y ∈ xs
  | [] => Iff.rfl
  | x :: xs => by
    unfold onceS
    by_cases h : x ∈ xs
    · rw [if_pos h, once_mem, List.mem_cons]
      exact ⟨.inr, fun z => z.elim (fun e => e ▸ h) id⟩
    · rw [if_neg h, List.mem_cons, List.mem_cons, once_mem]
theorem once_nd : ∀ (xs : List Str), (onceS xs).Nodup
  | [] => List.nodup_nil
  | x :: xs => by
    unfold onceS
    by_cases h : x ∈ xs
    · rw [if_pos h]; exact once_nd xs
    · rw [if_neg h]; exact List.nodup_cons.mpr ⟨fun z => h (once_mem.mp z), once_nd xs⟩
theorem once_len : ∀ xs : List Str, (onceS xs).length ≤ xs.length
  | [] => Nat.le_refl _
  | x :: xs => by
    have := once_len xs
    unfold onceS
    split
    · rw [List.length_cons]; omega
    · rw [List.length_cons, List.length_cons]; omega
/-- sorted(set(xs)) -/
def sortTR (xs : List Str) : R (List Str) := R.need (xs.length < 64) (.ok (sortS (onceS xs)))
section
variable {P : Program} {w : World} {K : PySem.W.Frag} {W : WX} {eX env : En} {te : TE}
theorem xo_sortT {m : R (List Str)} (h : Xp P w K W eX te env m (eL eS)) : Xo P w K W eX (tCB (rSortT w) (tCons (tCB (rSetT K w) (tCons te tNil)) tNil)) env (m.bind fun xs => sortTR xs) (oL eS) := by
  cases m with
  | ok xs =>
    show Xo P w K W eX _ env (sortTR xs) (oL eS)
    unfold sortTR R.need
    split
    · rename_i hz
      refine fun F0 H0 F H σ S Q q => h F0 H0 F H σ S _ fun v F1 H1 k1 r1 => ?_
      obtain ⟨a, vs, rfl, h1, h2⟩ := r1
      have e := rp_strs h2
      subst e
      refine ⟨a, xs, rfl, Evl.ex_l k1.s h1, by omega, fun p ys nd mm hp => ?_⟩
      have perm : ys.Perm (onceS xs) := (List.perm_ext_iff_of_nodup nd (once_nd xs)).mpr fun y => by rw [mm, once_mem]
      have lo := once_len xs
      refine ⟨p, ys, rfl, upd_same, by rw [perm.length_eq]; omega, fun zs p2 pz so hp2 => ?_⟩
      have ez := sortS_uniq (pz.trans perm) (sorted_pw zs so)
      subst ez
      have k2 := Pw.Wk.own k1.s (SetT w p ys) hp
      have n2 := fresh_back k2.h hp2
      exact q p2 _ F1 _ (k1.trans (k2.trans (Pw.Wk.own k2.s _ hp2))) (fresh_back k1.h n2) (Pw.none_sub k1.s n2) upd_same ⟨_, rfl, strs_rp _⟩
    · trivial
  | ex x => exact er_cb (era_1 (er_cb (era_1 h)))
  | no => trivial
end
end Mw
set_option maxHeartbeats 1000000
namespace Mw
open PySem PySem.Spec PyProof.Rows L2 Qw
open Evl hiding ea_cons
open Pw (Dt Rp RpL Wk)
section
variable {P : Program} {w : World} {K : PySem.W.Frag} {W : WX} {eX env : En} {te t1 : TE} {α : Type}
theorem ep_tmpApp {ds : List Dt} {d : Dt} (h : EpO P w K te env (.lst ds)) (hx : Ep P w K t1 env d) (few : ds.length < 100000) : Ep P w K (tBM K "list" rAppend te (tCons t1 tNil)) env .non := fun F0 H0 F H σ S Q q =>
  h F0 H0 F H σ S _ fun p o F1 H1 k1 n1 n2 e1 ok => by
    obtain ⟨vs, rfl, r1⟩ := ok
    refine ⟨.inl ⟨rfl, vs, .inl (.inl e1)⟩, ?_⟩
    refine hx F0 H0 F1 H1 σ (S.wk k1) _ fun v F2 H2 k2 r2 => ?_
    have e2 := k2.h p _ e1
    have n3 := k2.n p _ e1 n2
    have kk := k1.trans k2
    refine ⟨p, vs, v, rfl, rfl, e2, sz_lt (by rw [← r1.length]; exact few), ?_⟩
    refine q .non F2 _ ⟨kk.f, fun a o z => ?_, fun a o z => ?_, kk.n⟩ rfl
    · have : a ≠ p := fun e => by rw [e, n1] at z; cases z
      rw [upd_ne this]
      exact kk.h a o z
    · have : a ≠ p := fun e => by rw [e, n3] at z; cases z
      rw [upd_ne this]
      exact kk.s a o z
theorem xp_tmpApp {e : α → Dt} {d : Dt} {m : R (List α)} (h : Xo P w K W eX te env m (oL e)) (hx : Ep P w K t1 env d) : Xp P w K W eX (tBM K "list" rAppend te (tCons t1 tNil)) env (m.bind fun xs => R.need (xs.length < 100000) (.ok ())) eU := by
  cases m with
  | ok xs =>
    show Xp P w K W eX _ env (R.need (xs.length < 100000) (.ok ())) eU
    unfold R.need
    split
    · exact ep_tmpApp (ds := xs.map e) h hx (by rw [List.length_map]; assumption)
    · trivial
  | ex x => exact fun F0 H0 F H σ S Q q => h F0 H0 F H σ S _ q
  | no => trivial
end
section
variable {K : PySem.W.Frag} {α : Type} {e : α → Dt}
theorem rl_lenDk {m : List (Str × α)} : Pw.RLd K (fun xs H Q => ∃ a kvs, xs = [V.ref a] ∧ H a = some (.dK kvs) ∧ Q (.int kvs.length) H) [(eK e) m] (.int m.length) := fun F H vs s r Q q => by
  obtain ⟨v, r1, rfl, ⟨a, us, rfl, h1, h2, h3⟩, e2⟩ := r
  cases e2
  refine ⟨a, _, rfl, s _ _ h1, ?_⟩
  have : (List.zip ((kk e m).map Prod.fst) us).length = m.length := by
    rw [List.length_zip, ← h2, Nat.min_self, List.length_map]
    exact List.length_map _
  rw [this]
  exact q _ F H (Wk.refl s) rfl
end
end Mw
set_option maxHeartbeats 1000000
namespace CC
open PySem PySem.Spec PyProof.Rows L2 Qw Mw RZ
open Evl hiding ea_cons
open Pw (Dt Rp RpL Wk R2d R1d RLd RLn Kq KqL spX2 Xm Xm0 cr_int cr_min2 cr_max2 cr_list cr_tuple rTupS cr_len pe_globI pe_globS pe_globR pe_tyname)
structure Txt (K : PySem.W.Frag) (mg : Str → Option Value) : Prop where
  f_all : mg "all" = none
  f_int : mg "int" = none
  f_isinstance : mg "isinstance" = none
  f_len : mg "len" = none
  f_list : mg "list" = none
  f_min : mg "min" = none
  f_range : mg "range" = none
  f_set : mg "set" = none
  f_sorted : mg "sorted" = none
  f_str : mg "str" = none
  f_tuple : mg "tuple" = none
  g_MOST_NAME : ∃ t, mg "MOST_NAME" = some (.int 12 t)
  g_MOST_PINS : ∃ t, mg "MOST_PINS" = some (.int 4 t)
  g_MOST_LINES : ∃ t, mg "MOST_LINES" = some (.int 400 t)
  g_MOST_SOURCES : ∃ t, mg "MOST_SOURCES" = some (.int 40 t)
  g__LETTERS : ∃ t, mg "_LETTERS" = some (.str "abcdefghijklmnopqrstuvwxyz" t)
  g__CHARACTERS : ∃ t, mg "_CHARACTERS" = some (.str "abcdefghijklmnopqrstuvwxyz0123456789_" t)
  g_KINDS : mg "KINDS" = some (.ref (He.ga K "KINDS"))
  t_KINDS : ∀ H, SqT K H (He.ga K "KINDS") (KIN.map V.str)
  k_Circuit : Cls K (He.ga K "Circuit")
  a_Circuit : ∀ f ∈ (["inputs", "registers", "gates", "outputs", "gate_of", "order"] : List Str), NoAttr K (He.ga K "Circuit") f
  c_BadCircuit : mg "BadCircuit" = some (.ref (He.ga K "BadCircuit"))
  x_BadCircuit : XfC K (He.ga K "BadCircuit")
  n_reason : PySem.W.findIn K (.ref (He.ga K "BadCircuit")) "reason" = some none
  n_name : PySem.W.findIn K (.ref (He.ga K "BadCircuit")) "name" = some none
  e_BadCircuit : PySem.W.exmOne K (.ref (He.ga K "BadCircuit")) (.ref (He.ga K "BadCircuit")) = some true
end CC
set_option maxHeartbeats 400000
namespace CC
open PySem PySem.Spec PyProof.Rows L2 Qw
open Evl hiding ea_cons
open Pw (Dt Rp RpL Wk R2d R1d RLd RLn Kq KqL truD flatD fl py pyL rangeD charsD spX2 Xm Xm0 tyD isI isB isS isTp isL rl_isInt rl_isBool rl_isStr rl_isTup rl_isList rl_int rl_max2 rl_min2 rl_len rl_lenT rl_tup rl_tupT rl_lenS rl_all rl_any rn_list rn_listT r2_I0 r2_B0 r2_eqI r2_neI r2_eqS r2_neS r2_eq r2_ne r2_I r2_inS r2_niS r2_in r2_inT r2_ixL r2_ixT r2_ixS r2_addS r2_eqD r2_neD r2_ixM r1_U ixN_at itemD cr_int cr_min2 cr_max2 cr_list cr_tuple cr_len pe_globI pe_globS pe_globR pe_tyname rTupS rInt1 rMin2)
local macro_rules | `(tactic| walk_at "side") => `(tactic| first
  | decide | omega | assumption | (show (0 : Int) < _; omega) | exact (show CDiv _ _ from ⟨by omega, by omega⟩) | exact (show CMul _ _ from Or.inr ⟨by omega, by omega⟩) | exact (show CMul _ _ from Or.inl ⟨by omega, by omega⟩) | exact (show CPow _ _ from ⟨by decide, by decide, by decide⟩))
local macro_rules | `(tactic| walk_at "op") => `(tactic| first
  | exact r2_I0 | exact r2_B0 | exact r2_eqI | exact r2_neI | exact r2_eqS | exact r2_neS
  | exact r2_eq rfl rfl rfl | exact r2_ne rfl rfl rfl
  | (refine' r2_I ?_; walk_at "side") | exact r2_inS | exact r2_niS)
local macro_rules | `(tactic| walk_at "rl") => `(tactic| first
  | exact rl_int | exact rl_max2 | exact rl_min2 | exact rl_len | exact rl_lenT | exact rl_isInt (by first | rfl | assumption) | exact rl_isBool (by first | rfl | assumption) | exact rl_isStr (by first | rfl | assumption) | exact rl_isTup (by first | rfl | assumption) | exact rl_isList (by first | rfl | assumption) | exact rl_tup | exact rl_tupT | (refine' rl_lenS ?_; walk_at "side"))
local macro_rules | `(tactic| walk_at "ap") => `(tactic| first
  | exact ap_nil
  | (refine' ap_cons ?eah ?eat; (case eah => walk_at "ep"); (case eat => walk_at "ap")))
local macro_rules | `(tactic| walk_at "ep") => `(tactic| first
  | exact ep_int | exact ep_bl | exact ep_str | exact ep_non | exact ep_ty | exact ep_var
  | (refine' ep_op ?eva ?evb ?evc; (case eva => walk_at "ep"); (case evb => walk_at "ep"); (case evc => walk_at "op"))
  | (refine' ep_cb ?evd ?eve; (case evd => walk_at "ap"); (case eve => walk_at "rl"))
  | (refine' ep_un ?evf r1_U; (case evf => walk_at "ep"))
  | (refine' ep_tup ?evg ?evi; (case evg => walk_at "ap"); (case evi => exact Nat.le_of_ble_eq_true rfl))
  | (refine' ep_lst ?evh ?evj; (case evh => walk_at "ap"); (case evj => exact Nat.le_of_ble_eq_true rfl))
  | assumption)
local macro_rules | `(tactic| walk_at "ee") => `(tactic| (refine' ee_p ?eep; (case eep => walk_at "ep")))
local macro_rules | `(tactic| walk_at "te") => `(tactic| (refine' te_p ?tep; (case tep => walk_at "tp")))
local macro_rules | `(tactic| walk_at "tp") => `(tactic| first
  | (refine' tp_test ?tea; (case tea => walk_at "ep"))
  | (refine' tp_B ?teb; (case teb => walk_at "ep"))
  | (refine' tp_not ?tec; (case tec => walk_at "tp"))
  | (refine' tp_or ?ted ?tee; (case ted => walk_at "tp"); (case tee => intro _; walk_at "tp"))
  | (refine' tp_and ?tef ?teg; (case tef => walk_at "tp"); (case teg => intro _; walk_at "tp"))
  | assumption)
section
variable {P : Program} {w : World} {K : PySem.W.Frag} {mg : Str → Option Value} {base : Heap}
def LET : Str := "abcdefghijklmnopqrstuvwxyz"
def CHR : Str := "abcdefghijklmnopqrstuvwxyz0123456789_"
def nameB (x : Str) : Bool := match x.cps.toList with
  | [] => false
  | c :: _ => decide (x.length ≤ 12) && (decide (c ∈ LET.cps.toList) && x.cps.toList.all fun c => decide (c ∈ CHR.cps.toList))
def okS : Dt → Bool
  | .str x => decide (x.length ≤ 40000)
  | d => (tyD d).isSome
theorem okS_ty {v : Dt} (h : okS v = true) : (tyD v).isSome = true := by
  cases v <;> first | exact h | rfl
def isName : Dt → Bool
  | .str x => nameB x
  | _ => false
def R_is_name (ds : List Dt) (r : Rs) : Prop := ∃ v, ds = [v] ∧ okS v = true ∧ r = .d (.bl (isName v))
theorem l_is_name (ds : List Dt) (r : Rs) (h : R_is_name ds r) : ds.length = 1 := by
  obtain ⟨v, rfl, _⟩ := h
  rfl
theorem len_cps (x : Str) : x.length = x.cps.toList.length := by simp [Str.length]
theorem str_empty {x : Str} (h : x.cps.toList = []) : x = "" := by
  obtain ⟨c⟩ := x
  have : c = #[] := by
    cases c
    simp at h
    rw [h]
  rw [this]
  rfl
theorem at0 {x : Str} {c : Nat} {r : List Nat} (h : x.cps.toList = c :: r) : atI x.cps.toList 0 = some c := by
  rw [h]
  have e := ixN_nat (n := (c :: r).length) (j := 0) (by simp)
  show (ixN (c :: r).length 0).bind _ = _
  rw [show (0 : Int) = ((0 : Nat) : Int) from rfl, e]
  rfl
abbrev N_is_name : List Str := ["value", "sign"]
theorem sc_is_name : FnScope N_is_name ["value"] (defScope s_is_name) := ⟨rfl, rfl, rfl, by decide +kernel, rfl, by decide +kernel, by decide +kernel⟩
theorem k_is_name (T : Txt K mg) (D : Dx K mg "is_name" ["value"] s_is_name)  : Fx P w K mg base 1 "is_name" ["value"] (spR P w K R_is_name) := by
  refine Fx.of D sc_is_name (l_is_name) fun f cdv A outer s H E hr => ?_
  refine ⟨_, (pss_cons (ps_if (PW.pt (pw_or (pt_not (pt_val (pe_callB call_isi (by rfl) T.f_isinstance (by decide +kernel) (pa_cons (pv 0) (pa_cons (pe_tyname (n := "str") T.f_str) pa_nil))))) (pw_or1 (pt_cmpR op_eq (pv 0) pe_str (nomark _))))) (pss_one (ps_ret pe_bl)) pss_nil)
      (pss_cons (ps_if (PW.pt (pw_or (pt_cmpR op_gt (pe_callB call_len_str (by rfl) T.f_len PySem.boot_len (pa_cons (pv 0) pa_nil)) (pe_globI T.g_MOST_NAME) (nomark _)) (pw_or1 (pt_cmpR op_notInS (pe_ix ix_str (pv 0) pe_int (fun _ _ => rfl)) (pe_globS T.g__LETTERS) rfl)))) (pss_one (ps_ret pe_bl)) pss_nil)
      (pss_one (ps_ret (pe_callB (cr_all rfl) (by rfl) T.f_all (by decide +kernel) (pa_cons (pe_lc (own := [("sign", 1)]) (g := gName 1) (tt := tYes) rfl sc_is_name.nd (pi_str (pv 0)) (blkOk_by (N := N_is_name) (sc := defScope s_is_name) (by decide +kernel)) (fun _ _ _ _ _ => (pgn (i := 1) sc_is_name.nd)) (fun _ _ _ _ _ => pts_nil) (fun _ _ _ _ _ => (pe_cmpR op_inS (pv 1) (pe_globS T.g__CHARACTERS) rfl))) pa_nil)))))), ?_⟩
  rintro ds r ⟨v, rfl, hv, rfl⟩
  left
  show Se P w K _ [.d v, .u] _
  have ht := okS_ty hv
  cases hT : isS v with
  | false =>
    refine se_when (b := true) (te_p (tp_or (a := true) (b := true) (tp_is (tp_not (a := isS v) (by walk_at "tp")) (by rw [hT]; rfl)) (fun z => nomatch z))) (fun _ => ?_) (fun z => nomatch z)
    refine se_seqF (se_ret (ee_p (ep_is ep_bl ?_)))
    cases v <;> first | rfl | cases hT
  | true =>
    cases v <;> first | cases hT | skip
    rename_i x
    have hl : x.length ≤ 40000 := of_decide_eq_true hv
    refine se_when (b := decide (x = "")) (te_p (tp_is (tp_or (tp_not (by walk_at "tp")) (fun _ => by walk_at "tp")) rfl)) (fun hb => ?_) (fun hb => ?_)
    · refine se_seqF (se_ret (ee_p (ep_is ep_bl ?_)))
      have := of_decide_eq_true hb
      subst this
      rfl
    · cases hx : x.cps.toList with
      | nil =>
        rw [str_empty hx] at hb
        cases hb
      | cons c r =>
        refine se_when (b := decide ((12 : Int) < x.length) || !decide (c ∈ LET.cps.toList)) (te_p (tp_or (by walk_at "tp") fun _ => tp_test (ep_op (ep_op ep_var ep_int (r2_ixS (by omega) (at0 hx))) ep_str r2_niS))) (fun hb => ?_) (fun hb => ?_)
        · refine se_seqF (se_ret (ee_p (ep_is ep_bl ?_)))
          show _ = Dt.bl (nameB x)
          unfold nameB
          rw [hx]
          simp only [Bool.or_eq_true, decide_eq_true_eq, Bool.not_eq_true', decide_eq_false_iff_not] at hb
          congr 1
          symm
          simp only [Bool.and_eq_false_iff, decide_eq_false_iff_not]
          rcases hb with hb | hb
          · left; omega
          · right; left; exact hb
        · refine se_ret (ee_p (ep_is (ep_cb (ap_cons (ep_is (ep_new (np_mapT x.cps.toList (fun c => Dt.str ⟨#[c]⟩) (ip_str ep_var) (by rw [← len_cps]; exact hl) (fun c => .bl (decide (c ∈ CHR.cps.toList))) fun i c hc => ep_op ep_var ep_str r2_inS)) (e := .lst ((x.cps.toList.map fun c => decide (c ∈ CHR.cps.toList)).map .bl)) (by rw [List.map_map]; rfl)) ap_nil) rl_all) ?_))
          simp only [Bool.or_eq_false_iff, decide_eq_false_iff_not, Bool.not_eq_false', decide_eq_true_eq] at hb
          show _ = Dt.bl (nameB x)
          unfold nameB
          rw [hx]
          simp only [List.all_map]
          have h1 : decide (x.length ≤ 12) = true := decide_eq_true (by omega)
          rw [h1, decide_eq_true hb.2]
          simp
def mayHave (k : Str) (n : Int) : Bool := if k = "low" ∨ k = "high" then decide (n = 0) else if k = "not" ∨ k = "buf" then decide (n = 1) else decide (1 ≤ n) && decide (n ≤ 4)
def R_may_have (ds : List Dt) (r : Rs) : Prop := ∃ k n, ds = [.str k, .int n] ∧ r = .d (.bl (mayHave k n))
theorem l_may_have (ds : List Dt) (r : Rs) (h : R_may_have ds r) : ds.length = 2 := by
  obtain ⟨k, n, rfl, _⟩ := h
  rfl
theorem in2 (k a b : Str) : inV (V.str k) [V.str a, V.str b] = decide (k = a ∨ k = b) := by
  unfold inV
  simp only [List.any_cons, List.any_nil, Bool.or_false]
  have h : ∀ a : Str, eqV (V.str a) (V.str k) = decide (k = a) := fun a => by
    simp only [eqV]
    by_cases e : k = a
    · subst e; simp
    · simp [e, Ne.symm e]
  rw [h, h]
  simp
abbrev N_may_have : List Str := ["kind", "count"]
theorem sc_may_have : FnScope N_may_have ["kind", "count"] (defScope s_may_have) := ⟨rfl, rfl, rfl, by decide +kernel, rfl, by decide +kernel, by decide +kernel⟩
theorem k_may_have (T : Txt K mg) (D : Dx K mg "_may_have" ["kind", "count"] s_may_have)  : Fx P w K mg base 1 "_may_have" ["kind", "count"] (spR P w K R_may_have) := by
  refine Fx.of D sc_may_have (l_may_have) fun f cdv A outer s H E hr => ?_
  refine ⟨_, (pss_cons (ps_if (pt_cmpR op_in_seq (pv 0) (pe_tup (pa_cons pe_str (pa_cons pe_str pa_nil))) rfl) (pss_one (ps_ret (pe_cmpR op_eq (pv 1) pe_int (nomark _)))) pss_nil)
      (pss_cons (ps_if (pt_cmpR op_in_seq (pv 0) (pe_tup (pa_cons pe_str (pa_cons pe_str pa_nil))) rfl) (pss_one (ps_ret (pe_cmpR op_eq (pv 1) pe_int (nomark _)))) pss_nil)
      (pss_one (ps_ret (pe_chain op_le op_le pe_int (pv 1) (pe_globI T.g_MOST_PINS)))))), ?_⟩
  rintro ds r ⟨k, n, rfl, rfl⟩
  left
  show Se P w K _ [.d (.str k), .d (.int n)] _
  have hin : ∀ {env : En} (a b : Str), env[0]? = some (.d (.str k)) → Tp P w K (tTest (tOp (rIn K false) (tVar 0) (tTup (tCons (tC (.str a)) (tCons (tC (.str b)) tNil))))) env (decide (k = a ∨ k = b)) := fun a b h0 =>
    tp_is (tp_test (ep_op (ep_var h0) (ep_tup (ap_cons ep_str (ap_cons ep_str ap_nil)) (Nat.le_of_ble_eq_true rfl)) (r2_inT rfl rfl rfl rfl))) (in2 k a b)
  refine se_when (te_p (hin "low" "high" rfl)) (fun hb => ?_) (fun hb => ?_)
  · refine se_seqF (se_ret (ee_p (ep_is (by walk_at "ep") ?_)))
    unfold mayHave
    rw [if_pos (of_decide_eq_true hb)]
  · refine se_when (te_p (hin "not" "buf" rfl)) (fun hb2 => ?_) (fun hb2 => ?_)
    · refine se_seqF (se_ret (ee_p (ep_is (by walk_at "ep") ?_)))
      unfold mayHave
      rw [if_neg (of_decide_eq_false hb), if_pos (of_decide_eq_true hb2)]
    · refine se_ret (ee_p (ep_is (ep_chain ep_int ep_var r2_B0 (fun _ => ep_int) fun _ => r2_B0) ?_))
      unfold mayHave
      rw [if_neg (of_decide_eq_false hb), if_neg (of_decide_eq_false hb2)]
def R_are_names (ds : List Dt) (r : Rs) : Prop := ∃ xs, (ds = [.tup xs] ∨ ds = [.lst xs]) ∧ xs.length ≤ 40000 ∧ xs.all okS = true ∧ r = .d (.bl (xs.all isName))
theorem l_are_names (ds : List Dt) (r : Rs) (h : R_are_names ds r) : ds.length = 1 := by
  obtain ⟨xs, rfl | rfl, _⟩ := h <;> rfl
abbrev N_are_names : List Str := ["items", "item"]
theorem sc_are_names : FnScope N_are_names ["items"] (defScope s_are_names) := ⟨rfl, rfl, rfl, by decide +kernel, rfl, by decide +kernel, by decide +kernel⟩
theorem k_are_names (T : Txt K mg) (D : Dx K mg "_are_names" ["items"] s_are_names)  (G_is_name : Fx P w K mg base 1 "is_name" ["value"] (spR P w K R_is_name)) : Fx P w K mg base 2 "_are_names" ["items"] (spR P w K R_are_names) := by
  refine Fx.of D sc_are_names (l_are_names) fun f cdv A outer s H E hr => ?_
  refine ⟨_, (pss_one (ps_ret (pe_callB (cr_all rfl) (by rfl) T.f_all (by decide +kernel) (pa_cons (pe_lc (own := [("item", 1)]) (g := gName 1) (tt := tYes) rfl sc_are_names.nd (pi_seq (pv 0)) (blkOk_by (N := N_are_names) (sc := defScope s_are_names) (by decide +kernel)) (fun _ _ _ _ _ => (pgn (i := 1) sc_are_names.nd)) (fun _ _ _ _ _ => pts_nil) (fun _ _ _ _ _ => (pe_fx G_is_name (hr.mono (by decide)) (pa_cons (pv 1) pa_nil)))) pa_nil)))), ?_⟩
  rintro ds r ⟨xs, h, hl, ho, rfl⟩
  left
  obtain ⟨v, rfl, hI⟩ : ∃ v, ds = [v] ∧ Ip P w K (iSeq K (tVar 0)) [.d v, .u] xs := by
    rcases h with rfl | rfl
    · exact ⟨_, rfl, ip_seqT ep_var⟩
    · exact ⟨_, rfl, ip_seqL ep_var⟩
  exact se_ret (ee_p (ep_is (ep_cb (ap_cons (ep_is (ep_new (np_map hI hl (fun d => .bl (isName d)) fun d hd => ep_call (ap_cons ep_var ap_nil) ⟨d, rfl, List.all_eq_true.mp ho d hd, rfl⟩)) (e := .lst ((xs.map isName).map .bl)) (by rw [List.map_map]; rfl)) ap_nil) rl_all) (by rw [List.all_map]; rfl)))
def isReg : Dt → Bool
  | .tup xs => decide (xs.length = 2) && xs.all isName
  | _ => false
def okR : Dt → Bool
  | .tup xs => decide (xs.length ≤ 40000) && xs.all okS
  | d => (tyD d).isSome
theorem okR_ty {v : Dt} (h : okR v = true) : (tyD v).isSome = true := by
  cases v <;> first | exact h | rfl
def R_is_register (ds : List Dt) (r : Rs) : Prop := ∃ v, ds = [v] ∧ okR v = true ∧ r = .d (.bl (isReg v))
theorem l_is_register (ds : List Dt) (r : Rs) (h : R_is_register ds r) : ds.length = 1 := by
  obtain ⟨xs, rfl, _⟩ := h
  rfl
abbrev N_is_register : List Str := ["value"]
theorem sc_is_register : FnScope N_is_register ["value"] (defScope s_is_register) := ⟨rfl, rfl, rfl, by decide +kernel, rfl, by decide +kernel, by decide +kernel⟩
theorem k_is_register (T : Txt K mg) (D : Dx K mg "_is_register" ["value"] s_is_register)  (G__are_names : Fx P w K mg base 2 "_are_names" ["items"] (spR P w K R_are_names)) : Fx P w K mg base 3 "_is_register" ["value"] (spR P w K R_is_register) := by
  refine Fx.of D sc_is_register (l_is_register) fun f cdv A outer s H E hr => ?_
  refine ⟨_, (pss_one (ps_ret (pe_and (pe_callB call_isi (by rfl) T.f_isinstance (by decide +kernel) (pa_cons (pv 0) (pa_cons (pe_tyname (n := "tuple") T.f_tuple) pa_nil))) (pe_and (pe_cmpR op_eq (pe_callB cr_len (by rfl) T.f_len PySem.boot_len (pa_cons (pv 0) pa_nil)) pe_int (nomark _)) (pe_one (pe_fx G__are_names (hr.mono (by decide)) (pa_cons (pv 0) pa_nil))))))), ?_⟩
  rintro ds r ⟨v, rfl, ho, rfl⟩
  left
  show Se P w K _ [.d v] _
  have ht := okR_ty ho
  refine se_ret (ee_p ?_)
  cases hT : isTp v with
  | false =>
    refine ep_is (ep_and (a := false) (b := true) (ep_is (by walk_at "ep") (by rw [hT])) (fun z => nomatch z)) ?_
    cases v <;> first | rfl | cases hT
  | true =>
    cases v <;> first | cases hT | skip
    rename_i xs
    obtain ⟨h1, h2⟩ := Bool.and_eq_true_iff.mp ho
    refine ep_is (ep_and (a := true) (ep_is (by walk_at "ep") rfl) fun _ => ep_and (by walk_at "ep") fun _ => ep_call (ap_cons ep_var ap_nil) ⟨xs, .inl rfl, of_decide_eq_true h1, h2, rfl⟩) ?_
    show Dt.bl (true && (decide ((xs.length : Int) = 2) && xs.all isName)) = Dt.bl (decide (xs.length = 2) && xs.all isName)
    rw [Bool.true_and]
    congr 2
    exact decide_eq_decide.mpr (by omega)
end
end CC
set_option maxHeartbeats 400000
namespace CC
open PySem PySem.Spec PyProof.Rows L2 Qw
open Evl hiding ea_cons
open Pw (Dt Rp RpL Wk R2d R1d RLd RLn Kq KqL truD flatD fl py pyL rangeD charsD spX2 Xm Xm0 tyD isI isB isS isTp isL rl_isInt rl_isBool rl_isStr rl_isTup rl_isList rl_int rl_max2 rl_min2 rl_len rl_lenT rl_tup rl_tupT rl_lenS rl_all rl_any rn_list rn_listT r2_I0 r2_B0 r2_eqI r2_neI r2_eqS r2_neS r2_eq r2_ne r2_I r2_inS r2_niS r2_in r2_inT r2_ixL r2_ixT r2_ixS r2_addS r2_eqD r2_neD r2_ixM r1_U ixN_at itemD cr_int cr_min2 cr_max2 cr_list cr_tuple cr_len pe_globI pe_globS pe_globR pe_tyname rTupS rInt1 rMin2)
local macro_rules | `(tactic| walk_at "side") => `(tactic| first
  | decide | omega | assumption | (show (0 : Int) < _; omega) | exact (show CDiv _ _ from ⟨by omega, by omega⟩) | exact (show CMul _ _ from Or.inr ⟨by omega, by omega⟩) | exact (show CMul _ _ from Or.inl ⟨by omega, by omega⟩) | exact (show CPow _ _ from ⟨by decide, by decide, by decide⟩))
local macro_rules | `(tactic| walk_at "op") => `(tactic| first
  | exact r2_I0 | exact r2_B0 | exact r2_eqI | exact r2_neI | exact r2_eqS | exact r2_neS
  | exact r2_eq rfl rfl rfl | exact r2_ne rfl rfl rfl
  | (refine' r2_I ?_; walk_at "side") | exact r2_inS | exact r2_niS)
local macro_rules | `(tactic| walk_at "rl") => `(tactic| first
  | exact rl_int | exact rl_max2 | exact rl_min2 | exact rl_len | exact rl_lenT | exact rl_isInt (by first | rfl | assumption) | exact rl_isBool (by first | rfl | assumption) | exact rl_isStr (by first | rfl | assumption) | exact rl_isTup (by first | rfl | assumption) | exact rl_isList (by first | rfl | assumption) | exact rl_tup | exact rl_tupT | (refine' rl_lenS ?_; walk_at "side"))
local macro_rules | `(tactic| walk_at "ap") => `(tactic| first
  | exact ap_nil
  | (refine' ap_cons ?eah ?eat; (case eah => walk_at "ep"); (case eat => walk_at "ap")))
local macro_rules | `(tactic| walk_at "ep") => `(tactic| first
  | exact ep_int | exact ep_bl | exact ep_str | exact ep_non | exact ep_ty | exact ep_var
  | (refine' ep_op ?eva ?evb ?evc; (case eva => walk_at "ep"); (case evb => walk_at "ep"); (case evc => walk_at "op"))
  | (refine' ep_cb ?evd ?eve; (case evd => walk_at "ap"); (case eve => walk_at "rl"))
  | (refine' ep_un ?evf r1_U; (case evf => walk_at "ep"))
  | (refine' ep_tup ?evg ?evi; (case evg => walk_at "ap"); (case evi => exact Nat.le_of_ble_eq_true rfl))
  | (refine' ep_lst ?evh ?evj; (case evh => walk_at "ap"); (case evj => exact Nat.le_of_ble_eq_true rfl))
  | assumption)
local macro_rules | `(tactic| walk_at "ee") => `(tactic| (refine' ee_p ?eep; (case eep => walk_at "ep")))
local macro_rules | `(tactic| walk_at "te") => `(tactic| (refine' te_p ?tep; (case tep => walk_at "tp")))
local macro_rules | `(tactic| walk_at "tp") => `(tactic| first
  | (refine' tp_test ?tea; (case tea => walk_at "ep"))
  | (refine' tp_B ?teb; (case teb => walk_at "ep"))
  | (refine' tp_not ?tec; (case tec => walk_at "tp"))
  | (refine' tp_or ?ted ?tee; (case ted => walk_at "tp"); (case tee => intro _; walk_at "tp"))
  | (refine' tp_and ?tef ?teg; (case tef => walk_at "tp"); (case teg => intro _; walk_at "tp"))
  | assumption)
section
variable {P : Program} {w : World} {K : PySem.W.Frag} {mg : Str → Option Value} {base : Heap}
def isGate : Dt → Bool
  | .tup [l, .str k, .tup ps] => decide (k ∈ KIN) && (mayHave k ps.length && (isName l && ps.all isName))
  | _ => false
/-- the third part: a tuple of things that may be asked for names, or what is no tuple -/
def okP : Dt → Bool
  | .tup ps => decide (ps.length ≤ 30000) && ps.all okS
  | d => (tyD d).isSome
def okG : Dt → Bool
  | .tup [l, k, p] => okS l && ((tyD k).isSome && okP p)
  | d => (tyD d).isSome
theorem okG_ty {v : Dt} (h : okG v = true) : (tyD v).isSome = true := by
  unfold okG at h
  split at h
  · rfl
  · exact h
theorem okP_ty {v : Dt} (h : okP v = true) : (tyD v).isSome = true := by
  cases v <;> first | exact h | rfl
def R_is_gate (ds : List Dt) (r : Rs) : Prop := ∃ v, ds = [v] ∧ okG v = true ∧ r = .d (.bl (isGate v))
theorem l_is_gate (ds : List Dt) (r : Rs) (h : R_is_gate ds r) : ds.length = 1 := by
  obtain ⟨xs, rfl, _⟩ := h
  rfl
theorem eqV_str (a k : Str) : eqV (V.str a) (V.str k) = decide (k = a) := by
  simp only [eqV]
  by_cases e : k = a
  · subst e; simp
  · simp [e, Ne.symm e]
theorem inV_strs (k : Str) (xs : List Str) : inV (V.str k) (xs.map V.str) = decide (k ∈ xs) := by
  unfold inV
  induction xs with
  | nil => simp
  | cons a xs ih =>
    rw [List.map_cons, List.any_cons, ih, eqV_str]
    simp
theorem fl_strs (xs : List Str) : (xs.map Dt.str).map Pw.fl = xs.map V.str := by
  rw [List.map_map]
  rfl
theorem flat_strsD (xs : List Str) : (xs.map Dt.str).all flatD = true := by
  simp [flatD]
theorem flat_strsV (xs : List Str) : ((xs.map Dt.str).map Pw.fl).all flatV = true := by
  rw [fl_strs]
  induction xs with
  | nil => rfl
  | cons a xs ih => exact ih
theorem se_no {s2 : TS} {env : En} {b : Bool} (h : b = false) : Se P w K (tSeq (tRet (tC (.bl false))) s2) env (.rt (.bl b)) := se_seqF (se_ret (ee_p (ep_is ep_bl (by rw [h]))))
theorem ep_kinds (T : Txt K mg) {env : En} : Ep P w K (tC (.ref (He.ga K "KINDS"))) env (.tup (KIN.map Dt.str)) := ep_c (rp_wr T.t_KINDS fun F => rpl_strs KIN)
abbrev N_is_gate : List Str := ["value", "line", "kind", "pins"]
theorem sc_is_gate : FnScope N_is_gate ["value"] (defScope s_is_gate) := ⟨rfl, rfl, rfl, by decide +kernel, rfl, by decide +kernel, by decide +kernel⟩
theorem k_is_gate (T : Txt K mg) (D : Dx K mg "is_gate" ["value"] s_is_gate)  (G__may_have : Fx P w K mg base 1 "_may_have" ["kind", "count"] (spR P w K R_may_have)) (G__are_names : Fx P w K mg base 2 "_are_names" ["items"] (spR P w K R_are_names)) : Fx P w K mg base 3 "is_gate" ["value"] (spR P w K R_is_gate) := by
  refine Fx.of D sc_is_gate (l_is_gate) fun f cdv A outer s H E hr => ?_
  refine ⟨_, (pss_cons (ps_if (PW.pt (pw_or (pt_not (pt_val (pe_callB call_isi (by rfl) T.f_isinstance (by decide +kernel) (pa_cons (pv 0) (pa_cons (pe_tyname (n := "tuple") T.f_tuple) pa_nil))))) (pw_or1 (pt_cmpR op_ne (pe_callB cr_len (by rfl) T.f_len PySem.boot_len (pa_cons (pv 0) pa_nil)) pe_int (nomark _))))) (pss_one (ps_ret pe_bl)) pss_nil)
      (pss_cons (ps_asg (pv 0) (pg_tup rfl (pgs_cons (pgn (i := 1) sc_is_gate.nd) (pgs_cons (pgn (i := 2) sc_is_gate.nd) (pgs_cons (pgn (i := 3) sc_is_gate.nd) pgs_nil)))))
      (pss_cons (ps_if (PW.pt (pw_or (pt_not (pt_val (pe_callB call_isi (by rfl) T.f_isinstance (by decide +kernel) (pa_cons (pv 2) (pa_cons (pe_tyname (n := "str") T.f_str) pa_nil))))) (pw_or1 (pt_cmpR op_notIn_seq (pv 2) (pe_globR T.g_KINDS) rfl)))) (pss_one (ps_ret pe_bl)) pss_nil)
      (pss_cons (ps_if (PW.pt (pw_or (pt_not (pt_val (pe_callB call_isi (by rfl) T.f_isinstance (by decide +kernel) (pa_cons (pv 3) (pa_cons (pe_tyname (n := "tuple") T.f_tuple) pa_nil))))) (pw_or1 (pt_not (pt_val (pe_fx G__may_have (hr.mono (by decide)) (pa_cons (pv 2) (pa_cons (pe_callB cr_len (by rfl) T.f_len PySem.boot_len (pa_cons (pv 3) pa_nil)) pa_nil)))))))) (pss_one (ps_ret pe_bl)) pss_nil)
      (pss_one (ps_ret (pe_fx G__are_names (hr.mono (by decide)) (pa_cons (pe_lst (pa_cons (pv 1) (StX.pa_star (pv 3) pa_nil))) pa_nil)))))))), ?_⟩
  rintro ds r ⟨v, rfl, ho, rfl⟩
  left
  show Se P w K _ [.d v, .u, .u, .u] _
  have ht := okG_ty ho
  cases hT : isTp v with
  | false =>
    refine se_when (b := true) (te_p (tp_or (a := true) (b := true) (tp_is (tp_not (a := isTp v) (by walk_at "tp")) (by rw [hT]; rfl)) (fun z => nomatch z))) (fun _ => se_no ?_) (fun z => nomatch z)
    cases v <;> first | rfl | cases hT
  | true =>
    cases v <;> first | cases hT | skip
    rename_i xs
    refine se_when (b := !decide ((xs.length : Int) = 3)) (te_p (tp_is (tp_or (a := false) (tp_is (tp_not (a := true) (by walk_at "tp")) rfl) (fun _ => by walk_at "tp")) rfl)) (fun hb => se_no ?_) (fun hb => ?_)
    · have hb : ¬ (xs.length : Int) = 3 := by simpa using hb
      unfold isGate
      split
      · rename_i e
        cases e
        exact absurd rfl hb
      · rfl
    · have hb : (xs.length : Int) = 3 := by simpa using hb
      obtain ⟨l, k, p, rfl⟩ : ∃ l k p, xs = [l, k, p] := by
        match xs, hb with
        | [l, k, p], _ => exact ⟨l, k, p, rfl⟩
      obtain ⟨hl, hk, hp⟩ : okS l = true ∧ (tyD k).isSome = true ∧ okP p = true := by
        have h := ho
        simp only [okG, Bool.and_eq_true] at h
        exact h
      have hpt := okP_ty hp
      refine se_seq (se_asgG (ee_p ep_var) (ge_tup (gs_cons ge_name (gs_cons ge_name (gs_cons ge_name gs_nil))))) ?_
      show Se P w K _ [.d _, .d l, .d k, .d p] _
      cases hS : isS k with
      | false =>
        refine se_when (b := true) (te_p (tp_or (a := true) (b := true) (tp_is (tp_not (a := isS k) (by walk_at "tp")) (by rw [hS]; rfl)) (fun z => nomatch z))) (fun _ => se_no ?_) (fun z => nomatch z)
        cases k <;> first | rfl | cases hS
      | true =>
        obtain ⟨k, rfl⟩ : ∃ x, k = .str x := by cases k <;> first | exact ⟨_, rfl⟩ | cases hS
        refine se_when (b := !decide (k ∈ KIN)) (te_p (tp_is (tp_or (a := false) (tp_is (tp_not (a := true) (by walk_at "tp")) rfl) (fun _ => tp_is (tp_test (ep_op ep_var (ep_kinds T) (r2_inT (neg := true) rfl (flat_strsD KIN) rfl (flat_strsV KIN)))) (by rw [fl_strs]; exact congrArg (!·) (inV_strs k KIN)))) rfl)) (fun hb => se_no ?_) (fun hb => ?_)
        · have hnk : decide (k ∈ KIN) = false := by simpa using hb
          unfold isGate
          split
          · rename_i e
            cases e
            rw [hnk, Bool.false_and]
          · rfl
        · have hkin : k ∈ KIN := by simpa using hb
          cases hT2 : isTp p with
          | false =>
            refine se_when (b := true) (te_p (tp_or (a := true) (b := true) (tp_is (tp_not (a := isTp p) (by walk_at "tp")) (by rw [hT2]; rfl)) (fun z => nomatch z))) (fun _ => se_no ?_) (fun z => nomatch z)
            cases p <;> first | rfl | cases hT2
          | true =>
            obtain ⟨ps, rfl⟩ : ∃ x, p = .tup x := by cases p <;> first | exact ⟨_, rfl⟩ | cases hT2
            obtain ⟨hp1, hp2⟩ : decide (ps.length ≤ 30000) = true ∧ ps.all okS = true := by
              have h := hp
              simp only [okP, Bool.and_eq_true] at h
              exact h
            have hp1 := of_decide_eq_true hp1
            refine se_when (b := !mayHave k ps.length) (te_p (tp_is (tp_or (a := false) (tp_is (tp_not (a := true) (by walk_at "tp")) rfl) (fun _ => tp_not (tp_B (ep_call (ap_cons ep_var (ap_cons (by walk_at "ep") ap_nil)) ⟨k, ps.length, rfl, rfl⟩)))) rfl)) (fun hb => se_no ?_) (fun hb => ?_)
            · have hb : mayHave k ps.length = false := by simpa using hb
              show (decide (k ∈ KIN) && (mayHave k ps.length && (isName l && ps.all isName))) = false
              rw [hb, Bool.false_and, Bool.and_false]
            · have hb : mayHave k ps.length = true := by simpa using hb
              refine se_ret (ee_p (ep_is (ep_call (ap_cons (ep_lst (ap_cons ep_var (ap_starT ep_var ap_nil)) (by simp; omega)) ap_nil) ⟨l :: (ps ++ []), .inr rfl, by simp; omega, by simp [hl, hp2], rfl⟩) ?_))
              show _ = Dt.bl (decide (k ∈ KIN) && (mayHave k ps.length && (isName l && ps.all isName)))
              rw [hb, decide_eq_true hkin, List.append_nil, List.all_cons]
              simp
end
end CC
set_option maxHeartbeats 400000
namespace CC
open PySem PySem.Spec PyProof.Rows L2 Qw
open Evl hiding ea_cons
open Pw (Dt Rp RpL Wk R2d R1d RLd RLn Kq KqL truD flatD fl py pyL rangeD charsD spX2 Xm Xm0 tyD isI isB isS isTp isL rl_isInt rl_isBool rl_isStr rl_isTup rl_isList rl_int rl_max2 rl_min2 rl_len rl_lenT rl_tup rl_tupT rl_lenS rl_all rl_any rn_list rn_listT r2_I0 r2_B0 r2_eqI r2_neI r2_eqS r2_neS r2_eq r2_ne r2_I r2_inS r2_niS r2_in r2_inT r2_ixL r2_ixT r2_ixS r2_addS r2_eqD r2_neD r2_ixM r1_U ixN_at itemD cr_int cr_min2 cr_max2 cr_list cr_tuple cr_len pe_globI pe_globS pe_globR pe_tyname rTupS rInt1 rMin2)
local macro_rules | `(tactic| walk_at "side") => `(tactic| first
  | decide | omega | assumption | (show (0 : Int) < _; omega) | exact (show CDiv _ _ from ⟨by omega, by omega⟩) | exact (show CMul _ _ from Or.inr ⟨by omega, by omega⟩) | exact (show CMul _ _ from Or.inl ⟨by omega, by omega⟩) | exact (show CPow _ _ from ⟨by decide, by decide, by decide⟩))
local macro_rules | `(tactic| walk_at "op") => `(tactic| first
  | exact r2_I0 | exact r2_B0 | exact r2_eqI | exact r2_neI | exact r2_eqS | exact r2_neS
  | exact r2_eq rfl rfl rfl | exact r2_ne rfl rfl rfl
  | (refine' r2_I ?_; walk_at "side") | exact r2_inS | exact r2_niS)
local macro_rules | `(tactic| walk_at "rl") => `(tactic| first
  | exact rl_int | exact rl_max2 | exact rl_min2 | exact rl_len | exact rl_lenT | exact rl_isInt (by first | rfl | assumption) | exact rl_isBool (by first | rfl | assumption) | exact rl_isStr (by first | rfl | assumption) | exact rl_isTup (by first | rfl | assumption) | exact rl_isList (by first | rfl | assumption) | exact rl_tup | exact rl_tupT | (refine' rl_lenS ?_; walk_at "side"))
local macro_rules | `(tactic| walk_at "ap") => `(tactic| first
  | exact ap_nil
  | (refine' ap_cons ?eah ?eat; (case eah => walk_at "ep"); (case eat => walk_at "ap")))
local macro_rules | `(tactic| walk_at "ep") => `(tactic| first
  | exact ep_int | exact ep_bl | exact ep_str | exact ep_non | exact ep_ty | exact ep_var
  | (refine' ep_op ?eva ?evb ?evc; (case eva => walk_at "ep"); (case evb => walk_at "ep"); (case evc => walk_at "op"))
  | (refine' ep_cb ?evd ?eve; (case evd => walk_at "ap"); (case eve => walk_at "rl"))
  | (refine' ep_un ?evf r1_U; (case evf => walk_at "ep"))
  | (refine' ep_tup ?evg ?evi; (case evg => walk_at "ap"); (case evi => exact Nat.le_of_ble_eq_true rfl))
  | (refine' ep_lst ?evh ?evj; (case evh => walk_at "ap"); (case evj => exact Nat.le_of_ble_eq_true rfl))
  | assumption)
local macro_rules | `(tactic| walk_at "ee") => `(tactic| (refine' ee_p ?eep; (case eep => walk_at "ep")))
local macro_rules | `(tactic| walk_at "te") => `(tactic| (refine' te_p ?tep; (case tep => walk_at "tp")))
local macro_rules | `(tactic| walk_at "tp") => `(tactic| first
  | (refine' tp_test ?tea; (case tea => walk_at "ep"))
  | (refine' tp_B ?teb; (case teb => walk_at "ep"))
  | (refine' tp_not ?tec; (case tec => walk_at "tp"))
  | (refine' tp_or ?ted ?tee; (case ted => walk_at "tp"); (case tee => intro _; walk_at "tp"))
  | (refine' tp_and ?tef ?teg; (case tef => walk_at "tp"); (case teg => intro _; walk_at "tp"))
  | assumption)
section
variable {P : Program} {w : World} {K : PySem.W.Frag} {mg : Str → Option Value} {base : Heap}
def badC (K : PySem.W.Frag) (reason name : Str) : Xn := ⟨He.ga K "BadCircuit", ["name", "reason"], [.str name, .str reason]⟩
def R_check_form (K : PySem.W.Frag) (ds : List Dt) (r : Rs) : Prop := ∃ is rs gs os, ds = [.tup is, .tup rs, .tup gs, .tup os] ∧ (is.length ≤ 40000 ∧ rs.length ≤ 40000 ∧ gs.length ≤ 40000 ∧ os.length ≤ 40000) ∧ (is.all okS = true ∧ rs.all okR = true ∧ gs.all okG = true ∧ os.all okS = true) ∧
  r = if (is.all isName && (os.all isName && (rs.all isReg && gs.all isGate))) = true then .d .non else .x (badC K "form" "")
theorem l_check_form (K : PySem.W.Frag) (ds : List Dt) (r : Rs) (h : R_check_form K ds r) : ds.length = 4 := by
  obtain ⟨is, rs, gs, os, rfl, _⟩ := h
  rfl
theorem does_rz {E : XK} {s : TS} {env : En} {x : Xn} {e : En} (h : Se P w K s env (.rz (fun cls d _ H => E cls d H) x e)) : Does P w K E s env (.x x) := ⟨e, h⟩
theorem does_nx {E : XK} {s : TS} {env : En} {e : En} (h : Se P w K s env (.nx e)) : Does P w K E s env (.d .non) := .inr ⟨rfl, e, h⟩
theorem does_if {E : XK} {s : TS} {env : En} {x : Xn} {e : En} {c : Prop} [Decidable c] (h : Se P w K s env (if c then .nx e else .rz (fun cls d _ H => E cls d H) x e)) : Does P w K E s env (if c then .d .non else .x x) := by
  split at h
  · rename_i z
    rw [if_pos z]
    exact does_nx h
  · rename_i z
    rw [if_neg z]
    exact does_rz h
abbrev N_check_form : List Str := ["inputs", "registers", "gates", "outputs", "item"]
theorem sc_check_form : FnScope N_check_form ["inputs", "registers", "gates", "outputs"] (defScope s_check_form) := ⟨rfl, rfl, rfl, by decide +kernel, rfl, by decide +kernel, by decide +kernel⟩
theorem k_check_form (T : Txt K mg) (D : Dx K mg "_check_form" ["inputs", "registers", "gates", "outputs"] s_check_form)  (G__are_names : Fx P w K mg base 2 "_are_names" ["items"] (spR P w K R_are_names)) (G__is_register : Fx P w K mg base 3 "_is_register" ["value"] (spR P w K R_is_register)) (G_is_gate : Fx P w K mg base 3 "is_gate" ["value"] (spR P w K R_is_gate)) (X_BadCircuit : Xm P w K mg base "BadCircuit" (He.ga K "BadCircuit") (spX2 (He.ga K "BadCircuit") "reason" "name")) : Fx P w K mg base 4 "_check_form" ["inputs", "registers", "gates", "outputs"] (spR P w K (R_check_form K)) := by
  refine Fx.ofX D sc_check_form (l_check_form K) fun f cdv A outer s H E hr tk => ?_
  refine ⟨_, (pss_cons (ps_if (PW.pt (pw_or (pt_not (pt_val (pe_fx G__are_names (hr.mono (by decide)) (pa_cons (pv 0) pa_nil)))) (pw_or1 (pt_not (pt_val (pe_fx G__are_names (hr.mono (by decide)) (pa_cons (pv 3) pa_nil))))))) (pss_one (ps_raise rfl tk (pm_2 X_BadCircuit (hr.mono (by decide)) (pa_cons pe_str (pa_cons pe_str pa_nil))))) pss_nil)
      (pss_cons (ps_if (pt_not (pt_val (pe_callB (cr_all rfl) (by rfl) T.f_all (by decide +kernel) (pa_cons (pe_lc (own := [("item", 4)]) (g := gName 4) (tt := tYes) rfl sc_check_form.nd (pi_tup (pv 1)) (blkOk_by (N := N_check_form) (sc := defScope s_check_form) (by decide +kernel)) (fun _ _ _ _ _ => (pgn (i := 4) sc_check_form.nd)) (fun _ _ _ _ _ => pts_nil) (fun _ _ _ _ _ => (pe_fx G__is_register (hr.mono (by decide)) (pa_cons (pv 4) pa_nil)))) pa_nil)))) (pss_one (ps_raise rfl tk (pm_2 X_BadCircuit (hr.mono (by decide)) (pa_cons pe_str (pa_cons pe_str pa_nil))))) pss_nil)
      (pss_one (ps_if (pt_not (pt_val (pe_callB (cr_all rfl) (by rfl) T.f_all (by decide +kernel) (pa_cons (pe_lc (own := [("item", 4)]) (g := gName 4) (tt := tYes) rfl sc_check_form.nd (pi_tup (pv 2)) (blkOk_by (N := N_check_form) (sc := defScope s_check_form) (by decide +kernel)) (fun _ _ _ _ _ => (pgn (i := 4) sc_check_form.nd)) (fun _ _ _ _ _ => pts_nil) (fun _ _ _ _ _ => (pe_fx G_is_gate (hr.mono (by decide)) (pa_cons (pv 4) pa_nil)))) pa_nil)))) (pss_one (ps_raise rfl tk (pm_2 X_BadCircuit (hr.mono (by decide)) (pa_cons pe_str (pa_cons pe_str pa_nil))))) pss_nil)))), ?_⟩
  rintro ds r ⟨is, rs, gs, os, rfl, ⟨l1, l2, l3, l4⟩, ⟨o1, o2, o3, o4⟩, rfl⟩
  show Does P w K E _ [.d (.tup is), .d (.tup rs), .d (.tup gs), .d (.tup os), .u] _
  have t1 : ∀ {env : En} {i : Nat} {xs : List Dt}, env[i]? = some (.d (.tup xs)) → xs.length ≤ 40000 → xs.all okS = true → Tp P w K (tNot (tB (tCall (spR P w K R_are_names) [] E0 (tCons (tVar i) tNil)))) env (!xs.all isName) := fun h0 h1 h2 =>
    tp_not (tp_B (ep_call (ap_cons (ep_var h0) ap_nil) ⟨_, .inl rfl, h1, h2, rfl⟩))
  have bad : ∀ {s2 : TS} {e : En}, Se P w K (tSeq (fun _ σ H => tMkO (He.ga K "BadCircuit") (spX2 (He.ga K "BadCircuit") "reason" "name") [] (tCons (tC (.str "form")) (tCons (tC (.str "")) tNil)) σ H fun cls d H' => (fun (cls : Value) (d : Option Addr) (_ : L2.St) (H : Hp) => E cls d H) cls d σ H') s2) e (.rz (fun cls d _ H => E cls d H) (badC K "form" "") e) := se_seqF (se_raise2 (by walk_at "ap"))
  have bad1 : ∀ {e : En}, Se P w K (fun _ σ H => tMkO (He.ga K "BadCircuit") (spX2 (He.ga K "BadCircuit") "reason" "name") [] (tCons (tC (.str "form")) (tCons (tC (.str "")) tNil)) σ H fun cls d H' => (fun (cls : Value) (d : Option Addr) (_ : L2.St) (H : Hp) => E cls d H) cls d σ H') e (.rz (fun cls d _ H => E cls d H) (badC K "form" "") e) := se_raise2 (by walk_at "ap")
  refine does_if (e := [.d (.tup is), .d (.tup rs), .d (.tup gs), .d (.tup os), .u]) ?_
  refine se_when (te_p (tp_or (t1 rfl l1 o1) fun _ => t1 rfl l4 o4)) (fun hb => ?_) (fun hb => ?_)
  · rw [if_neg]
    · exact bad
    · intro z
      simp only [Bool.and_eq_true] at z
      rw [z.1, z.2.1] at hb
      cases hb
  · obtain ⟨b1, b2⟩ : is.all isName = true ∧ os.all isName = true := by simpa using hb
    refine se_when (b := !rs.all isReg) (te_p (tp_not (tp_B (ep_is (ep_cb (ap_cons (ep_is (ep_new (np_map (ip_tup ep_var) l2 (fun d => .bl (isReg d)) fun d hd => ep_call (ap_cons ep_var ap_nil) ⟨d, rfl, List.all_eq_true.mp o2 d hd, rfl⟩)) (e := .lst ((rs.map isReg).map .bl)) (by rw [List.map_map]; rfl)) ap_nil) rl_all) (by rw [List.all_map]; rfl))))) (fun hb => ?_) (fun hb => ?_)
    · rw [if_neg]
      · exact bad
      · intro z
        simp only [Bool.and_eq_true] at z
        rw [z.2.2.1] at hb
        cases hb
    · refine se_if (b := !gs.all isGate) (te_p (tp_not (tp_B (ep_is (ep_cb (ap_cons (ep_is (ep_new (np_map (ip_tup ep_var) l3 (fun d => .bl (isGate d)) fun d hd => ep_call (ap_cons ep_var ap_nil) ⟨d, rfl, List.all_eq_true.mp o3 d hd, rfl⟩)) (e := .lst ((gs.map isGate).map .bl)) (by rw [List.map_map]; rfl)) ap_nil) rl_all) (by rw [List.all_map]; rfl))))) (fun hc => ?_) (fun hc => ?_)
      · rw [if_neg]
        · exact bad1
        · intro z
          simp only [Bool.and_eq_true] at z
          rw [z.2.2.2] at hc
          cases hc
      · rw [if_pos]
        · exact se_next
        · rw [b1, b2]
          have h1 : rs.all isReg = true := by simpa using hb
          have h2 : gs.all isGate = true := by simpa using hc
          rw [h1, h2]
          rfl
end
end CC
set_option maxHeartbeats 400000
namespace CC
open PySem PySem.Spec PyProof.Rows L2 Qw
open Evl hiding ea_cons
open Pw (Dt Rp RpL Wk R2d R1d RLd RLn Kq KqL truD flatD fl py pyL rangeD charsD spX2 Xm Xm0 tyD isI isB isS isTp isL rl_isInt rl_isBool rl_isStr rl_isTup rl_isList rl_int rl_max2 rl_min2 rl_len rl_lenT rl_tup rl_tupT rl_lenS rl_all rl_any rn_list rn_listT r2_I0 r2_B0 r2_eqI r2_neI r2_eqS r2_neS r2_eq r2_ne r2_I r2_inS r2_niS r2_in r2_inT r2_ixL r2_ixT r2_ixS r2_addS r2_eqD r2_neD r2_ixM r1_U ixN_at itemD cr_int cr_min2 cr_max2 cr_list cr_tuple cr_len pe_globI pe_globS pe_globR pe_tyname rTupS rInt1 rMin2)
local macro_rules | `(tactic| walk_at "side") => `(tactic| first
  | decide | omega | assumption | (show (0 : Int) < _; omega) | exact (show CDiv _ _ from ⟨by omega, by omega⟩) | exact (show CMul _ _ from Or.inr ⟨by omega, by omega⟩) | exact (show CMul _ _ from Or.inl ⟨by omega, by omega⟩) | exact (show CPow _ _ from ⟨by decide, by decide, by decide⟩))
local macro_rules | `(tactic| walk_at "op") => `(tactic| first
  | exact r2_I0 | exact r2_B0 | exact r2_eqI | exact r2_neI | exact r2_eqS | exact r2_neS
  | exact r2_eq rfl rfl rfl | exact r2_ne rfl rfl rfl
  | (refine' r2_I ?_; walk_at "side") | exact r2_inS | exact r2_niS)
local macro_rules | `(tactic| walk_at "rl") => `(tactic| first
  | exact rl_int | exact rl_max2 | exact rl_min2 | exact rl_len | exact rl_lenT | exact rl_isInt (by first | rfl | assumption) | exact rl_isBool (by first | rfl | assumption) | exact rl_isStr (by first | rfl | assumption) | exact rl_isTup (by first | rfl | assumption) | exact rl_isList (by first | rfl | assumption) | exact rl_tup | exact rl_tupT | (refine' rl_lenS ?_; walk_at "side"))
local macro_rules | `(tactic| walk_at "ap") => `(tactic| first
  | exact ap_nil
  | (refine' ap_cons ?eah ?eat; (case eah => walk_at "ep"); (case eat => walk_at "ap")))
local macro_rules | `(tactic| walk_at "ep") => `(tactic| first
  | exact ep_int | exact ep_bl | exact ep_str | exact ep_non | exact ep_ty | exact ep_var
  | (refine' ep_op ?eva ?evb ?evc; (case eva => walk_at "ep"); (case evb => walk_at "ep"); (case evc => walk_at "op"))
  | (refine' ep_cb ?evd ?eve; (case evd => walk_at "ap"); (case eve => walk_at "rl"))
  | (refine' ep_un ?evf r1_U; (case evf => walk_at "ep"))
  | (refine' ep_tup ?evg ?evi; (case evg => walk_at "ap"); (case evi => exact Nat.le_of_ble_eq_true rfl))
  | (refine' ep_lst ?evh ?evj; (case evh => walk_at "ap"); (case evj => exact Nat.le_of_ble_eq_true rfl))
  | assumption)
local macro_rules | `(tactic| walk_at "ee") => `(tactic| (refine' ee_p ?eep; (case eep => walk_at "ep")))
local macro_rules | `(tactic| walk_at "te") => `(tactic| (refine' te_p ?tep; (case tep => walk_at "tp")))
local macro_rules | `(tactic| walk_at "tp") => `(tactic| first
  | (refine' tp_test ?tea; (case tea => walk_at "ep"))
  | (refine' tp_B ?teb; (case teb => walk_at "ep"))
  | (refine' tp_not ?tec; (case tec => walk_at "tp"))
  | (refine' tp_or ?ted ?tee; (case ted => walk_at "tp"); (case tee => intro _; walk_at "tp"))
  | (refine' tp_and ?tef ?teg; (case tef => walk_at "tp"); (case teg => intro _; walk_at "tp"))
  | assumption)
section
variable {P : Program} {w : World} {K : PySem.W.Frag} {mg : Str → Option Value} {base : Heap}
theorem se_lez {s : TS} {env e1 e2 : En} {W : WX} {x : Xn} (h : Se P w K s env (.rz W x e1)) (l : Le e1 e2) : Se P w K s env (.rz W x e2) := fun F0 H0 F H σ D S p => h F0 H0 F H σ D S fun od F1 H1 σ1 e1 S1 => p od F1 H1 σ1 e1 (S1.le l)
theorem le_x : ∀ {a : En} {n : Nat}, a.length = n → Le a (List.replicate n .x) := fun {a n} h => ⟨by simp [h], fun i s e => .inl (by
  rw [List.getElem?_replicate] at e
  split at e
  · exact (Option.some.inj e).symm
  · cases e)⟩
def orX (f : Str → Xn) : Option Str → Rs
  | none => .d .non
  | some a => .x (f a)
def outX (E : XK) (e e2 : En) (f : Str → Xn) : Option Str → Out
  | none => .nx e
  | some a => .rz (fun cls d _ H => E cls d H) (f a) e2
def dupOf : List Str → List Str → Option Str
  | _, [] => none
  | seen, x :: r => if x ∈ seen then some x else dupOf (seen ++ [x]) r
theorem dup_spec : ∀ (xs seen : List Str), (dupOf seen xs = none ∧ ∀ (i : Nat) x, xs[i]? = some x → ¬ x ∈ seen ++ xs.take i) ∨ ∃ (i : Nat) (x : Str), dupOf seen xs = some x ∧ xs[i]? = some x ∧ x ∈ seen ++ xs.take i ∧ ∀ (j : Nat) y, j < i → xs[j]? = some y → ¬ y ∈ seen ++ xs.take j
  | [], seen => .inl ⟨rfl, fun i x h => by simp at h⟩
  | a :: xs, seen => by
    by_cases e : a ∈ seen
    · exact .inr ⟨0, a, by simp [dupOf, e], rfl, by simpa using e, fun j y h => by omega⟩
    · have h0 : dupOf seen (a :: xs) = dupOf (seen ++ [a]) xs := by simp [dupOf, e]
      rw [h0]
      rcases dup_spec xs (seen ++ [a]) with ⟨h1, h2⟩ | ⟨i, x, h1, h2, h3, h4⟩
      · refine .inl ⟨h1, fun i x h => ?_⟩
        cases i with
        | zero =>
          simp at h
          subst h
          simpa using e
        | succ i =>
          have := h2 i x (by simpa using h)
          simpa [List.append_assoc] using this
      · refine .inr ⟨i + 1, x, h1, by simpa using h2, by simpa [List.append_assoc] using h3, fun j y hj hy => ?_⟩
        cases j with
        | zero =>
          simp at hy
          subst hy
          simpa using e
        | succ j =>
          have := h4 j y (by omega) (by simpa using hy)
          simpa [List.append_assoc] using this
def setS (xs : List Str) : Key → Bool := Qs.memK (xs.map Sum.inr)
theorem setS_in (xs : List Str) (x : Str) : setS xs (.inr x) = decide (x ∈ xs) := by
  unfold setS Qs.memK
  induction xs with
  | nil => simp
  | cons a xs ih =>
    rw [List.map_cons, List.any_cons, ih]
    have : decide ((Sum.inr x : Key) = Sum.inr a) = decide (x = a) := decide_eq_decide.mpr ⟨Sum.inr.inj, fun h => by rw [h]⟩
    rw [this]
    simp
theorem setS_snoc (xs : List Str) (x : Str) : (fun j => setS xs j || decide (j = (.inr x : Key))) = setS (xs ++ [x]) := by
  funext j
  unfold setS Qs.memK
  simp
def R_check_driven_once (K : PySem.W.Frag) (ds : List Dt) (r : Rs) : Prop := ∃ xs : List Str, ds = [.lst (xs.map .str)] ∧ xs.length ≤ 3000 ∧ r = orX (badC K "twice") (dupOf [] xs)
theorem l_check_driven_once (K : PySem.W.Frag) (ds : List Dt) (r : Rs) (h : R_check_driven_once K ds r) : ds.length = 1 := by
  obtain ⟨xs, rfl, _⟩ := h
  rfl
theorem does_opt {E : XK} {s : TS} {env e e2 : En} {f : Str → Xn} (o : Option Str) (h : Se P w K s env (outX E e e2 f o)) : Does P w K E s env (orX f o) := by
  cases o with
  | none => exact does_nx h
  | some a => exact does_rz h
abbrev N_check_driven_once : List Str := ["lines", "seen", "line"]
theorem sc_check_driven_once : FnScope N_check_driven_once ["lines"] (defScope s_check_driven_once) := ⟨rfl, rfl, rfl, by decide +kernel, rfl, by decide +kernel, by decide +kernel⟩
theorem k_check_driven_once (T : Txt K mg) (D : Dx K mg "_check_driven_once" ["lines"] s_check_driven_once)  (X_BadCircuit : Xm P w K mg base "BadCircuit" (He.ga K "BadCircuit") (spX2 (He.ga K "BadCircuit") "reason" "name")) : Fx P w K mg base 3 "_check_driven_once" ["lines"] (spR P w K (R_check_driven_once K)) := by
  refine Fx.ofX D sc_check_driven_once (l_check_driven_once K) fun f cdv A outer s H E hr tk => ?_
  refine ⟨_, (pss_cons (pset (i := 1) sc_check_driven_once.nd (pe_callTy0 cr_set0K (by rfl) T.f_set (by decide +kernel)))
      (pss_one (ps_for (passes_of rfl) rfl (pi_list (pv 0)) (pgn (i := 2) sc_check_driven_once.nd)
      (pss_cons (ps_if (pt_cmpR or_sinK (pv 2) (pv 1) rfl) (pss_one (ps_raise rfl tk (pm_2 X_BadCircuit (hr.mono (by decide)) (pa_cons pe_str (pa_cons (pv 2) pa_nil))))) pss_nil)
      (pss_one (ps_expr (pe_saddK (pv 1) (pa_cons (pv 2) pa_nil)))))))), ?_⟩
  rintro ds r ⟨xs, rfl, hl, rfl⟩
  show Does P w K E _ [.d (.lst (xs.map .str)), .u, .u] _
  refine does_opt (e := [.d (.lst (xs.map .str)), .ow none (.set (setS xs) xs.length), .x]) (e2 := List.replicate 3 .x) _ ?_
  refine se_seq (env1 := [.d (.lst (xs.map .str)), .ow none (.set (setS []) 0), .u]) (se_own (eo_p po_set0)) ?_
  have turn : ∀ (i : Nat) (x : Str), xs[i]? = some x → i < xs.length := fun i x h => (List.getElem?_eq_some_iff.mp h).1
  have hE : ∀ (i : Nat) (d : Dt), (xs.map Dt.str)[i]? = some d → ∃ x, xs[i]? = some x ∧ d = .str x := fun i d h => by
    rw [List.getElem?_map] at h
    cases e : xs[i]? with
    | none => rw [e] at h; cases h
    | some x =>
      rw [e] at h
      exact ⟨x, rfl, (Option.some.inj h).symm⟩
  let En0 : Nat → En := fun i => [.d (.lst (xs.map .str)), .ow none (.set (setS (xs.take i)) i), .x]
  have t1 : ∀ (i : Nat) (x : Str), Te P w K (tTest (tOp (rSInK P w false) (tVar 2) (tVar 1))) ((En0 i).set 2 (.d (.str x))) (decide (x ∈ xs.take i)) ((En0 i).set 2 (.d (.str x))) := fun i x => te_p (tp_is (tp_test (ep_inS (k := .inr x) (S0 := setS (xs.take i)) (m := i) false ep_var)) (setS_in _ _))
  rcases dup_spec xs [] with ⟨h1, h2⟩ | ⟨i, x, h1, h2, h3, h4⟩
  · rw [h1]
    refine se_is (se_for (ie_p (ip_list ep_var)) En0 xs.length (by simp) (Le.s (Le.s (Le.x Le.nil))) (fun i d hi hd => ?_) (.inl ⟨by simp, rfl⟩)) (by simp only [En0, List.take_length]; rfl)
    obtain ⟨x, hx, rfl⟩ := hE i d hd
    refine ⟨_, ge_name, se_nc (se_le (se_when (b := false) (te_is (t1 i x) (decide_eq_false (by simpa using h2 i x hx))) (fun z => nomatch z) fun _ => se_addS (k := .inr x) (S0 := setS (xs.take i)) (m := i) ep_var rfl (by omega)) ?_)⟩
    rw [setS_snoc, show xs.take i ++ [x] = xs.take (i + 1) by rw [List.take_add_one, hx]; rfl]
    exact Le.s (Le.s (Le.x Le.nil))
  · rw [h1]
    have hi := turn i x h2
    refine se_for (ie_p (ip_list ep_var)) En0 i (by simp; omega) (Le.s (Le.s (Le.x Le.nil))) (fun j d hj hd => ?_) (.inr ⟨.str x, _, by rw [List.getElem?_map, h2]; rfl, ge_name, .inl ⟨rfl, (fun _ z => nomatch z), (fun _ z => nomatch z), ?_⟩⟩)
    · obtain ⟨y, hy, rfl⟩ := hE j d hd
      refine ⟨_, ge_name, se_nc (se_le (se_when (b := false) (te_is (t1 j y) (decide_eq_false (by simpa using h4 j y hj hy))) (fun z => nomatch z) fun _ => se_addS (k := .inr y) (S0 := setS (xs.take j)) (m := j) ep_var rfl (by omega)) ?_)⟩
      rw [setS_snoc, show xs.take j ++ [y] = xs.take (j + 1) by rw [List.take_add_one, hy]; rfl]
      exact Le.s (Le.s (Le.x Le.nil))
    · exact se_when (b := true) (te_is (t1 i x) (decide_eq_true (by simpa using h3))) (fun _ => se_lez (se_seqF (se_raise2 (by walk_at "ap"))) (le_x rfl)) (fun z => nomatch z)
def R_check_known (K : PySem.W.Frag) (ds : List Dt) (r : Rs) : Prop := ∃ xs ys : List Str, ds = [.lst (xs.map .str), .lst (ys.map .str)] ∧ xs.length ≤ 3000 ∧ ys.length ≤ 40000 ∧ r = orX (badC K "unknown") (ys.find? fun y => !decide (y ∈ xs))
theorem l_check_known (K : PySem.W.Frag) (ds : List Dt) (r : Rs) (h : R_check_known K ds r) : ds.length = 2 := by
  obtain ⟨xs, ys, rfl, _⟩ := h
  rfl
def strOf : Dt → Str
  | .str x => x
  | _ => ""
theorem find_map (ys : List Str) (p : Str → Bool) : (ys.map Dt.str).find? (fun d => p (strOf d)) = (ys.find? p).map Dt.str := by
  induction ys with
  | nil => rfl
  | cons a ys ih =>
    rw [List.map_cons, List.find?_cons, List.find?_cons]
    show (match p a with | true => _ | false => _) = _
    cases p a with
    | true => rfl
    | false => exact ih
theorem map_inr (xs : List Str) : (xs.map Sum.inr).map kD = xs.map Dt.str := by
  rw [List.map_map]
  rfl
theorem se_findX {E : XK} {wi : TI} {g : TG} {tb : TS} {env : En} (ys : List Str) (p : Str → Bool) (f : Str → Xn) (hI : Ip P w K wi env (ys.map .str)) (E1 e2 : En) (h0 : Le env E1)
    (hs : ∀ y ∈ ys, ∃ e1, Ge P w K g (.str y) E1 e1 ∧ (p y = true → Se P w K tb e1 (.rz (fun cls d _ H => E cls d H) (f y) e2)) ∧ (p y = false → Se P w K tb e1 (.nc E1))) : Se P w K (tFor wi g tb) env (outX E E1 e2 f (ys.find? p)) := by
  refine se_is (se_find (fun d => p (strOf d)) (fun d => .rz (fun cls d _ H => E cls d H) (f (strOf d)) e2) (fun d => ⟨rfl, (fun _ z => nomatch z), (fun _ z => nomatch z)⟩) hI E1 h0 fun d hd => ?_) ?_
  · obtain ⟨y, hy, rfl⟩ := List.mem_map.mp hd
    exact hs y hy
  · rw [find_map ys p]
    cases ys.find? p <;> rfl
abbrev N_check_known : List Str := ["lines", "names", "known", "name"]
theorem sc_check_known : FnScope N_check_known ["lines", "names"] (defScope s_check_known) := ⟨rfl, rfl, rfl, by decide +kernel, rfl, by decide +kernel, by decide +kernel⟩
theorem k_check_known (T : Txt K mg) (D : Dx K mg "_check_known" ["lines", "names"] s_check_known)  (X_BadCircuit : Xm P w K mg base "BadCircuit" (He.ga K "BadCircuit") (spX2 (He.ga K "BadCircuit") "reason" "name")) : Fx P w K mg base 3 "_check_known" ["lines", "names"] (spR P w K (R_check_known K)) := by
  refine Fx.ofX D sc_check_known (l_check_known K) fun f cdv A outer s H E hr tk => ?_
  refine ⟨_, (pss_cons (pset (i := 2) sc_check_known.nd (pe_callTy (Qs.cr_setL rfl) (by rfl) T.f_set (by decide +kernel) (pa_cons (pv 0) pa_nil)))
      (pss_one (ps_for (passes_of rfl) rfl (pi_list (pv 1)) (pgn (i := 3) sc_check_known.nd)
      (pss_one (ps_if (pt_cmpR or_snotinK (pv 3) (pv 2) rfl) (pss_one (ps_raise rfl tk (pm_2 X_BadCircuit (hr.mono (by decide)) (pa_cons pe_str (pa_cons (pv 3) pa_nil))))) pss_nil))))), ?_⟩
  rintro ds r ⟨xs, ys, rfl, hl, hl2, rfl⟩
  show Does P w K E _ [.d (.lst (xs.map .str)), .d (.lst (ys.map .str)), .u, .u] _
  refine does_opt (e := [.d (.lst (xs.map .str)), .d (.lst (ys.map .str)), .ow none (.set (setS xs) xs.length), .x]) (e2 := List.replicate 4 .x) _ ?_
  refine se_seq (env1 := [.d (.lst (xs.map .str)), .d (.lst (ys.map .str)), .ow none (.set (setS xs) xs.length), .u]) (se_own (eo_p ?_)) ?_
  · have h := po_setL (P := P) (w := w) (K := K) (env := [.d (.lst (xs.map .str)), .d (.lst (ys.map .str)), .u, .u]) (tA := tCons (tVar 0) tNil) (ks := xs.map Sum.inr) (ap_cons (by rw [map_inr]; exact ep_var) ap_nil) (by simp; omega)
    rw [List.length_map] at h
    exact h
  · refine se_findX ys _ _ (ip_list ep_var) _ _ (Le.s (Le.s (Le.s (Le.x Le.nil)))) fun y hy => ⟨_, ge_name, fun hp => ?_, fun hp => ?_⟩
    · exact se_if (b := true) (te_p (tp_is (tp_test (ep_inS (k := .inr y) (S0 := setS xs) (m := xs.length) true ep_var)) ((congrArg (!·) (setS_in xs y)).trans hp))) (fun _ => se_lez (se_raise2 (by walk_at "ap")) (le_x rfl)) (fun z => nomatch z)
    · exact se_nc (se_le (se_if (b := false) (te_p (tp_is (tp_test (ep_inS (k := .inr y) (S0 := setS xs) (m := xs.length) true ep_var)) ((congrArg (!·) (setS_in xs y)).trans hp))) (fun z => nomatch z) (fun _ => se_next)) (Le.s (Le.s (Le.s (Le.x Le.nil)))))
def R_check_size (K : PySem.W.Frag) (ds : List Dt) (r : Rs) : Prop := ∃ xs ys : List Dt, ds = [.lst xs, .lst ys] ∧ r = if xs.length ≤ 400 ∧ ys.length ≤ 40 then .d .non else .x (badC K "size" "")
theorem l_check_size (K : PySem.W.Frag) (ds : List Dt) (r : Rs) (h : R_check_size K ds r) : ds.length = 2 := by
  obtain ⟨xs, ys, rfl, _⟩ := h
  rfl
abbrev N_check_size : List Str := ["lines", "sources"]
theorem sc_check_size : FnScope N_check_size ["lines", "sources"] (defScope s_check_size) := ⟨rfl, rfl, rfl, by decide +kernel, rfl, by decide +kernel, by decide +kernel⟩
theorem k_check_size (T : Txt K mg) (D : Dx K mg "_check_size" ["lines", "sources"] s_check_size)  (X_BadCircuit : Xm P w K mg base "BadCircuit" (He.ga K "BadCircuit") (spX2 (He.ga K "BadCircuit") "reason" "name")) : Fx P w K mg base 3 "_check_size" ["lines", "sources"] (spR P w K (R_check_size K)) := by
  refine Fx.ofX D sc_check_size (l_check_size K) fun f cdv A outer s H E hr tk => ?_
  refine ⟨_, (pss_one (ps_if (PW.pt (pw_or (pt_cmpR op_gt (pe_callB cr_len (by rfl) T.f_len PySem.boot_len (pa_cons (pv 0) pa_nil)) (pe_globI T.g_MOST_LINES) (nomark _)) (pw_or1 (pt_cmpR op_gt (pe_callB cr_len (by rfl) T.f_len PySem.boot_len (pa_cons (pv 1) pa_nil)) (pe_globI T.g_MOST_SOURCES) (nomark _))))) (pss_one (ps_raise rfl tk (pm_2 X_BadCircuit (hr.mono (by decide)) (pa_cons pe_str (pa_cons pe_str pa_nil))))) pss_nil)), ?_⟩
  rintro ds r ⟨xs, ys, rfl, rfl⟩
  show Does P w K E _ [.d (.lst xs), .d (.lst ys)] _
  refine does_if (e := [.d (.lst xs), .d (.lst ys)]) ?_
  refine se_if (b := decide ((400 : Int) < xs.length) || decide ((40 : Int) < ys.length)) (te_p (tp_or (by walk_at "tp") fun _ => by walk_at "tp")) (fun hb => ?_) (fun hb => ?_)
  · rw [if_neg]
    · exact se_raise2 (by walk_at "ap")
    · rintro ⟨h1, h2⟩
      simp only [Bool.or_eq_true, decide_eq_true_eq] at hb
      omega
  · rw [if_pos]
    · exact se_next
    · simp only [Bool.or_eq_false_iff, decide_eq_false_iff_not] at hb
      omega
end
end CC
set_option maxHeartbeats 400000
namespace CC
open PySem PySem.Spec PyProof.Rows L2 Qw
open Evl hiding ea_cons
open Pw (Dt Rp RpL Wk R2d R1d RLd RLn Kq KqL truD flatD fl py pyL rangeD charsD spX2 Xm Xm0 tyD isI isB isS isTp isL rl_isInt rl_isBool rl_isStr rl_isTup rl_isList rl_int rl_max2 rl_min2 rl_len rl_lenT rl_tup rl_tupT rl_lenS rl_all rl_any rn_list rn_listT r2_I0 r2_B0 r2_eqI r2_neI r2_eqS r2_neS r2_eq r2_ne r2_I r2_inS r2_niS r2_in r2_inT r2_ixL r2_ixT r2_ixS r2_addS r2_eqD r2_neD r2_ixM r1_U ixN_at itemD cr_int cr_min2 cr_max2 cr_list cr_tuple cr_len pe_globI pe_globS pe_globR pe_tyname rTupS rInt1 rMin2)
local macro_rules | `(tactic| walk_at "side") => `(tactic| first
  | decide | omega | assumption | (show (0 : Int) < _; omega) | exact (show CDiv _ _ from ⟨by omega, by omega⟩) | exact (show CMul _ _ from Or.inr ⟨by omega, by omega⟩) | exact (show CMul _ _ from Or.inl ⟨by omega, by omega⟩) | exact (show CPow _ _ from ⟨by decide, by decide, by decide⟩))
local macro_rules | `(tactic| walk_at "op") => `(tactic| first
  | exact r2_I0 | exact r2_B0 | exact r2_eqI | exact r2_neI | exact r2_eqS | exact r2_neS
  | exact r2_eq rfl rfl rfl | exact r2_ne rfl rfl rfl
  | (refine' r2_I ?_; walk_at "side") | exact r2_inS | exact r2_niS)
local macro_rules | `(tactic| walk_at "rl") => `(tactic| first
  | exact rl_int | exact rl_max2 | exact rl_min2 | exact rl_len | exact rl_lenT | exact rl_isInt (by first | rfl | assumption) | exact rl_isBool (by first | rfl | assumption) | exact rl_isStr (by first | rfl | assumption) | exact rl_isTup (by first | rfl | assumption) | exact rl_isList (by first | rfl | assumption) | exact rl_tup | exact rl_tupT | (refine' rl_lenS ?_; walk_at "side"))
local macro_rules | `(tactic| walk_at "ap") => `(tactic| first
  | exact ap_nil
  | (refine' ap_cons ?eah ?eat; (case eah => walk_at "ep"); (case eat => walk_at "ap")))
local macro_rules | `(tactic| walk_at "ep") => `(tactic| first
  | exact ep_int | exact ep_bl | exact ep_str | exact ep_non | exact ep_ty | exact ep_var
  | (refine' ep_op ?eva ?evb ?evc; (case eva => walk_at "ep"); (case evb => walk_at "ep"); (case evc => walk_at "op"))
  | (refine' ep_cb ?evd ?eve; (case evd => walk_at "ap"); (case eve => walk_at "rl"))
  | (refine' ep_un ?evf r1_U; (case evf => walk_at "ep"))
  | (refine' ep_tup ?evg ?evi; (case evg => walk_at "ap"); (case evi => exact Nat.le_of_ble_eq_true rfl))
  | (refine' ep_lst ?evh ?evj; (case evh => walk_at "ap"); (case evj => exact Nat.le_of_ble_eq_true rfl))
  | assumption)
local macro_rules | `(tactic| walk_at "ee") => `(tactic| (refine' ee_p ?eep; (case eep => walk_at "ep")))
local macro_rules | `(tactic| walk_at "te") => `(tactic| (refine' te_p ?tep; (case tep => walk_at "tp")))
local macro_rules | `(tactic| walk_at "tp") => `(tactic| first
  | (refine' tp_test ?tea; (case tea => walk_at "ep"))
  | (refine' tp_B ?teb; (case teb => walk_at "ep"))
  | (refine' tp_not ?tec; (case tec => walk_at "tp"))
  | (refine' tp_or ?ted ?tee; (case ted => walk_at "tp"); (case tee => intro _; walk_at "tp"))
  | (refine' tp_and ?tef ?teg; (case tef => walk_at "tp"); (case teg => intro _; walk_at "tp"))
  | assumption)
section
variable {P : Program} {w : World} {K : PySem.W.Frag} {mg : Str → Option Value} {base : Heap}
structure Gt where
  l : Str
  k : Str
  ps : List Str
deriving DecidableEq
def Gt.d (g : Gt) : Dt := .tup [.str g.l, .str g.k, .tup (g.ps.map .str)]
def ins (xs : List Str) (x : Str) : List Str := if x ∈ xs then xs else xs ++ [x]
def kn (xs : List Str) : KD := xs.map fun x => (.inr x, .bl true)
theorem val_kn (xs : List Str) (x : Str) : (valD (kn xs) (.inr x)).isSome = decide (x ∈ xs) := by
  unfold valD kn
  induction xs with
  | nil => simp
  | cons a xs ih =>
    rw [List.map_cons, List.find?_cons]
    by_cases e : a = x
    · subst e; simp
    · have : decide ((Sum.inr a : Key) = Sum.inr x) = false := decide_eq_false fun h => e (Sum.inr.inj h)
      simp only [this]
      rw [ih]
      exact decide_eq_decide.mpr (by simp [Ne.symm e])
theorem put_kn (xs : List Str) (x : Str) : putD (kn xs) (.inr x) (.bl true) = kn (ins xs x) := by
  unfold putD ins
  have hany : ((kn xs).any fun kv => decide (kv.1 = Sum.inr x)) = decide (x ∈ xs) := by
    unfold kn
    induction xs with
    | nil => simp
    | cons a xs ih =>
      rw [List.map_cons, List.any_cons, ih]
      have : decide ((Sum.inr a : Key) = Sum.inr x) = decide (x = a) := decide_eq_decide.mpr ⟨fun h => (Sum.inr.inj h).symm, fun h => by rw [h]⟩
      rw [this]
      simp
  rw [hany]
  by_cases e : x ∈ xs
  · rw [if_pos (decide_eq_true e), if_pos e]
    unfold kn
    rw [List.map_map]
    refine List.map_congr_left fun a _ => ?_
    show (if (Sum.inr a : Key) = Sum.inr x then ((Sum.inr a : Key), Dt.bl true) else _) = _
    split <;> rfl
  · rw [if_neg (by simpa using e), if_neg e]
    simp [kn]
theorem ins_len (xs : List Str) (x : Str) : (ins xs x).length ≤ xs.length + 1 := by
  unfold ins
  split <;> simp
theorem kn_len (xs : List Str) : (kn xs).length = xs.length := by simp [kn]
structure Os where
  kn : List Str
  fo : List Gt
  le : List Gt
def ostep (s : Os) (g : Gt) : Os := if (g.ps.all fun p => decide (p ∈ s.kn)) = true then ⟨ins s.kn g.l, s.fo ++ [g], s.le⟩ else ⟨s.kn, s.fo, s.le ++ [g]⟩
def opass (k : List Str) (fo ws : List Gt) : Os := ws.foldl ostep ⟨k, fo, []⟩
def ordN : Nat → List Str → List Gt → List Gt → Except Str (List Str × List Gt)
  | _, k, fo, [] => .ok (k, fo)
  | 0, _, _, g :: _ => .error g.l
  | n + 1, k, fo, g :: ws => if (opass k fo (g :: ws)).le.length = (g :: ws).length then .error (((opass k fo (g :: ws)).le.head?.map Gt.l).getD "") else ordN n (opass k fo (g :: ws)).kn (opass k fo (g :: ws)).fo (opass k fo (g :: ws)).le
def order (src : List Str) (gs : List Gt) : Except Str (List Str × List Gt) := ordN gs.length (src.foldl ins []) [] gs
def ordR (K : PySem.W.Frag) : Except Str (List Str × List Gt) → Rs
  | .ok l => .o (.lst (l.2.map Gt.d))
  | .error x => .x (badC K "loop" x)
def R_in_order (K : PySem.W.Frag) (ds : List Dt) (r : Rs) : Prop := ∃ (src : List Str) (gs : List Gt), ds = [.lst (src.map .str), .tup (gs.map Gt.d)] ∧ (src.length ≤ 3000 ∧ gs.length ≤ 3000 ∧ ∀ g ∈ gs, g.ps.length ≤ 30000) ∧ r = ordR K (order src gs)
theorem l_in_order (K : PySem.W.Frag) (ds : List Dt) (r : Rs) (h : R_in_order K ds r) : ds.length = 2 := by
  obtain ⟨xs, ys, rfl, _⟩ := h
  rfl
theorem opass_len (ws : List Gt) : ∀ s : Os, (ws.foldl ostep s).fo.length + (ws.foldl ostep s).le.length = s.fo.length + s.le.length + ws.length ∧ (s.le.length ≤ (ws.foldl ostep s).le.length ∧ s.fo.length ≤ (ws.foldl ostep s).fo.length) ∧ (ws.foldl ostep s).kn.length + s.fo.length ≤ s.kn.length + (ws.foldl ostep s).fo.length ∧ (∀ g ∈ (ws.foldl ostep s).le, g ∈ s.le ∨ g ∈ ws) := by
  induction ws with
  | nil => intro s; exact ⟨rfl, ⟨Nat.le_refl _, Nat.le_refl _⟩, Nat.le_refl _, fun g h => .inl h⟩
  | cons g ws ih =>
    intro s
    obtain ⟨h1, h2, h3, h4⟩ := ih (ostep s g)
    have e : (ostep s g).fo.length + (ostep s g).le.length = s.fo.length + s.le.length + 1 ∧ (s.le.length ≤ (ostep s g).le.length ∧ s.fo.length ≤ (ostep s g).fo.length) ∧ (ostep s g).kn.length + s.fo.length ≤ s.kn.length + (ostep s g).fo.length ∧ (∀ x ∈ (ostep s g).le, x ∈ s.le ∨ x = g) := by
      unfold ostep
      split
      · have := ins_len s.kn g.l
        refine ⟨by simp; omega, ⟨Nat.le_refl _, by simp⟩, by simp; omega, fun x h => .inl h⟩
      · refine ⟨by simp; omega, ⟨by simp, by simp⟩, by simp, fun x h => by simpa using h⟩
    simp only [List.foldl_cons, List.length_cons]
    refine ⟨by omega, ⟨by omega, by omega⟩, by omega, fun x hx => ?_⟩
    rcases h4 x hx with h | h
    · rcases e.2.2.2 x h with h | h
      · exact .inl h
      · exact .inr (by simp [h])
    · exact .inr (by simp [h])
theorem itm {ds : List Dt} {i : Nat} {z : Dt} (h : ds[i]? = some z) : R2d K (rIxT K) (.tup ds) (.int (i : Int)) z := r2_ixT (ixN_nat (List.getElem?_eq_some_iff.mp h).1) h
theorem itmL {ds : List Dt} {i : Nat} {z : Dt} (h : ds[i]? = some z) : R2d K (rIxL K) (.lst ds) (.int (i : Int)) z := r2_ixL (ixN_nat (List.getElem?_eq_some_iff.mp h).1) h
theorem se_seqO {s1 s2 : TS} {env : En} {o1 o : Out} (h1 : Se P w K s1 env o1) (h2 : (∃ env1, o1 = .nx env1 ∧ Se P w K s2 env1 o) ∨ (o1.fin = true ∧ o = o1)) : Se P w K (tSeq s1 s2) env o := by
  rcases h2 with ⟨e1, rfl, h2⟩ | ⟨f, rfl⟩
  · exact se_seq h1 h2
  · exact se_seqF h1 f
theorem se_whileO {t : TT} {tb : TS} {env : En} {o : Out} (Pv : En → Prop) (μ : En → Nat) (hs : ∀ e, Pv e → ∃ b, Te P w K t e b e ∧ (b = true → ∃ o', Se P w K tb e o' ∧ ((∃ e', o' = .nc e' ∧ Pv e' ∧ μ e' < μ e) ∨ (o' = o ∧ o.fin = true ∧ (∀ e, o ≠ .bk e) ∧ (∀ e, o ≠ .ct e)) ∨ ∃ e', o' = .bk e' ∧ o = .nx e')) ∧ (b = false → o = .nx e)) (h0 : Pv env) : Se P w K (tWhile t tb) env o :=
  se_while Pv μ (fun e he => by
    obtain ⟨b, h1, h2, h3⟩ := hs e he
    refine ⟨b, h1, fun hb => ?_, h3⟩
    obtain ⟨o', g1, g2⟩ := h2 hb
    rcases g2 with ⟨e', rfl, g3, g4⟩ | ⟨rfl, g3, g4, g5⟩ | ⟨e', rfl, g3⟩
    · exact .inl ⟨e', g3, g4, g1⟩
    · exact .inr (.inl ⟨g3, g4, g5, g1⟩)
    · exact .inr (.inr ⟨e', g3, g1⟩)) h0
def wIO (E : XK) (K : PySem.W.Frag) (Wn : List Str → List Gt → List Gt → En) : Except Str (List Str × List Gt) → Out
  | .ok l => .nx (Wn l.1 l.2 [])
  | .error x => .rz (fun cls d _ H => E cls d H) (badC K "loop" x) (List.replicate 9 .x)
def oIO (E : XK) (K : PySem.W.Frag) : Except Str (List Str × List Gt) → Out
  | .ok l => .ro (.lst (l.2.map Gt.d))
  | .error x => .rz (fun cls d _ H => E cls d H) (badC K "loop" x) (List.replicate 9 .x)
theorem does_ord {E : XK} {s : TS} {env : En} {r : Except Str (List Str × List Gt)} (h : Se P w K s env (oIO E K r)) : Does P w K E s env (ordR K r) := by
  cases r with
  | ok l => exact h
  | error x => exact ⟨_, h⟩
theorem fold_kn (l : List Str) : ∀ q : List Str, (l.filter fun _ => true).foldl (fun q a => putD q (.inr a) (.bl true)) (kn q) = kn (l.foldl ins q) := by
  have e : l.filter (fun _ => true) = l := by simp
  rw [e]
  induction l with
  | nil => intro q; rfl
  | cons a l ih =>
    intro q
    rw [List.foldl_cons, put_kn, ih, List.foldl_cons]
    simp
theorem foldins_len (l : List Str) : ∀ q : List Str, (l.foldl ins q).length ≤ q.length + l.length := by
  induction l with
  | nil => intro q; exact Nat.le_refl _
  | cons a l ih =>
    intro q
    have h1 := ih (ins q a)
    have h2 := ins_len q a
    simp only [List.foldl_cons, List.length_cons]
    omega
def wlen (e : En) : Nat := match (e[5]? : Option Sl) with
  | some (Sl.d (Dt.lst l)) => l.length
  | _ => 0
set_option maxHeartbeats 2000000
abbrev N_in_order : List Str := ["sources", "gates", "known", "line", "found", "waiting", "left", "gate", "pin"]
theorem sc_in_order : FnScope N_in_order ["sources", "gates"] (defScope s_in_order) := ⟨rfl, rfl, rfl, by decide +kernel, rfl, by decide +kernel, by decide +kernel⟩
theorem k_in_order (T : Txt K mg) (D : Dx K mg "_in_order" ["sources", "gates"] s_in_order)  (X_BadCircuit : Xm P w K mg base "BadCircuit" (He.ga K "BadCircuit") (spX2 (He.ga K "BadCircuit") "reason" "name")) : Fx P w K mg base 3 "_in_order" ["sources", "gates"] (spR P w K (R_in_order K)) := by
  refine Fx.ofX D sc_in_order (l_in_order K) fun f cdv A outer s H E hr tk => ?_
  have hu : (A.deeper (envOfC "_in_order" (defScope s_in_order) s.heap.objs.size f cdv)).units + 64 < cLine := hr.units
  have hu1 : (A.deeper (envOfC "_in_order" (defScope s_in_order) s.heap.objs.size f cdv)).units + 1 < cLine := Nat.lt_of_le_of_lt (Nat.add_le_add_left (by decide) _) hu
  refine ⟨_, (pss_cons (pset (i := 2) sc_in_order.nd (pe_dc (own := [("line", 3)]) (g := gName 3) (tt := tYes) rfl sc_in_order.nd (pi_list (pv 0)) (blkOk_by (N := N_in_order) (sc := defScope s_in_order) (by decide +kernel)) (fun _ _ _ _ _ => (pgn (i := 3) sc_in_order.nd)) (fun _ _ _ _ _ => pts_nil) (fun _ _ _ _ _ => (pv 3)) (fun _ _ _ _ _ => pe_bl)))
      (pss_cons (pset (i := 4) sc_in_order.nd (pe_lst pa_nil))
      (pss_cons (pset (i := 5) sc_in_order.nd (pe_callTy cr_list (by rfl) T.f_list (by decide +kernel) (pa_cons (pv 1) pa_nil)))
      (pss_cons (ps_while (passes_of rfl) (pt_truth (pv 5) (fun _ => rfl))
      (pss_cons (pset (i := 6) sc_in_order.nd (pe_lst pa_nil))
      (pss_cons (ps_for (passes_of rfl) rfl (pi_list (pv 5)) (pgn (i := 7) sc_in_order.nd)
      (pss_one (ps_if (pt_val (pe_callB (cr_all rfl) (by rfl) T.f_all (by decide +kernel) (pa_cons (pe_lc (own := [("pin", 8)]) (g := gName 8) (tt := tYes) rfl sc_in_order.nd (pi_tup (pe_ix ix_tup (pv 7) pe_int (fun _ _ => rfl))) (blkOk_by (N := N_in_order) (sc := defScope s_in_order) (by decide +kernel)) (fun _ _ _ _ _ => (pgn (i := 8) sc_in_order.nd)) (fun _ _ _ _ _ => pts_nil) (fun _ _ _ _ _ => (pe_cmp (pc_din hu1 (pv 8) (pv 2))))) pa_nil))) (pss_cons (ps_dput hu1 (pv 2) (pe_ix ix_tup (pv 7) pe_int (fun _ _ => rfl)) pe_bl rfl)
      (pss_one (ps_expr (pe_bm PySem.F.plainAttrs_list PySem.F.slot_list_append PySem.F.type_list_append mt_append (pv 4) (pa_cons (pv 7) pa_nil))))) (pss_one (ps_expr (pe_bm PySem.F.plainAttrs_list PySem.F.slot_list_append PySem.F.type_list_append mt_append (pv 6) (pa_cons (pv 7) pa_nil)))))))
      (pss_cons (ps_if (pt_cmpR op_eq (pe_callB cr_len (by rfl) T.f_len PySem.boot_len (pa_cons (pv 6) pa_nil)) (pe_callB cr_len (by rfl) T.f_len PySem.boot_len (pa_cons (pv 5) pa_nil)) (nomark _)) (pss_one (ps_raise rfl tk (pm_2 X_BadCircuit (hr.mono (by decide)) (pa_cons pe_str (pa_cons (pe_ix ix_tup (pe_ix ix_list (pv 6) pe_int (fun _ _ => rfl)) pe_int (fun _ _ => rfl)) pa_nil))))) pss_nil)
      (pss_one (pset (i := 5) sc_in_order.nd (pv 6)))))))
      (pss_one (ps_ret (pv 4))))))), ?_⟩
  rintro ds r ⟨src, gs, rfl, ⟨z1, z2, z3⟩, rfl⟩
  show Does P w K E _ [.d (.lst (src.map .str)), .d (.tup (gs.map Gt.d)), .u, .u, .u, .u, .u, .u, .u] _
  let Wn : List Str → List Gt → List Gt → En := fun k fo ws => [.d (.lst (src.map .str)), .d (.tup (gs.map Gt.d)), .ow none (.dk (kn k)), .x, .ow none (.lst (fo.map Gt.d)), .d (.lst (ws.map Gt.d)), .x, .x, .x]
  refine does_ord ?_
  refine se_seq (env1 := [.d (.lst (src.map .str)), .d (.tup (gs.map Gt.d)), .ow none (.dk (kn (src.foldl ins []))), .u, .u, .u, .u, .u, .u]) ?_ ?_
  · have h := po_dc (P := P) (w := w) (K := K) (tt := tYes) (ty := tVar 3) (te := tC (.bl true)) (g := gName 3) (wi := iList K (tVar 0)) (env := [.d (.lst (src.map .str)), .d (.tup (gs.map Gt.d)), .u, .u, .u, .u, .u, .u, .u]) (vs := [3]) src Dt.str (ip_list ep_var) (by omega) (fun _ => true) Sum.inr (fun _ => .bl true) fun i a h => ⟨_, gc_name, tp_yes, fun _ => ⟨ep_var, ep_bl⟩⟩
    rw [show (src.filter fun _ => true).foldl (fun q a => putD q (.inr a) (.bl true)) [] = kn (src.foldl ins []) from fold_kn src []] at h
    exact se_own (eo_p h)
  refine se_seq (se_own (en_p (np_lst ap_nil))) ?_
  refine se_seq (se_asg (d := .lst (gs.map Gt.d)) (ee_p (ep_new (np_cb (ap_cons ep_var ap_nil) rn_listT)))) ?_
  refine se_seqO (o1 := wIO E K Wn (order src gs)) (se_pre (env1 := Wn (src.foldl ins []) [] gs) (Le.s (Le.s (Le.s (Le.x (Le.s (Le.s (Le.x (Le.x (Le.x Le.nil))))))))) ?_) ?_
  · refine se_whileO (fun e => ∃ k fo ws, e = Wn k fo ws ∧ k.length ≤ 3000 + fo.length ∧ fo.length + ws.length ≤ 3000 ∧ (∀ g ∈ ws, g.ps.length ≤ 30000) ∧ ∃ n, ws.length ≤ n ∧ ordN n k fo ws = order src gs) wlen ?_ ⟨_, _, _, rfl, by have := foldins_len src []; simp at this; simp; omega, by simpa using z2, z3, gs.length, Nat.le_refl _, rfl⟩
    rintro e ⟨k, fo, ws, rfl, hk, hf, hp, n, hn, ho⟩
    refine ⟨_, te_p (tp_tru ep_var rfl), fun hb => ?_, fun hb => ?_⟩
    · obtain ⟨n, rfl⟩ : ∃ m, n = m + 1 := by
        cases n with
        | zero =>
          cases ws with
          | nil => cases hb
          | cons g r => simp at hn
        | succ n => exact ⟨n, rfl⟩
      have hne : ws ≠ [] := by rintro rfl; cases hb
      have hord : ordN (n + 1) k fo ws = if (opass k fo ws).le.length = ws.length then .error (((opass k fo ws).le.head?.map Gt.l).getD "") else ordN n (opass k fo ws).kn (opass k fo ws).fo (opass k fo ws).le := by
        cases ws with
        | nil => exact absurd rfl hne
        | cons g r => rfl
      obtain ⟨q1, q2, q3, q4⟩ := opass_len ws ⟨k, fo, []⟩
      have q1 : (opass k fo ws).fo.length + (opass k fo ws).le.length = fo.length + ws.length := by simpa [opass] using q1
      have q2 : fo.length ≤ (opass k fo ws).fo.length := q2.2
      have q3 : (opass k fo ws).kn.length + fo.length ≤ k.length + (opass k fo ws).fo.length := q3
      have q4 : ∀ g ∈ (opass k fo ws).le, g ∈ ws := fun g h => by simpa using q4 g h
      refine ⟨if (opass k fo ws).le.length = ws.length then wIO E K Wn (order src gs) else .nc (Wn (opass k fo ws).kn (opass k fo ws).fo (opass k fo ws).le), ?_, ?_⟩
      · refine se_seq (se_own (en_p (np_lst ap_nil))) ?_
        let En1 : Os → En := fun s => [.d (.lst (src.map .str)), .d (.tup (gs.map Gt.d)), .ow none (.dk (kn s.kn)), .x, .ow none (.lst (s.fo.map Gt.d)), .d (.lst (ws.map Gt.d)), .ow none (.lst (s.le.map Gt.d)), .x, .x]
        refine se_seq (env1 := En1 (opass k fo ws)) (se_fold ws Gt.d rfl (ip_list ep_var) En1 ostep (fun s pre => s.fo.length + s.le.length = fo.length + pre.length ∧ s.kn.length ≤ k.length + pre.length) ⟨k, fo, []⟩ ?_ ⟨by simp, by simp⟩ ?_) ?_
        · exact Le.s (Le.s (Le.s (Le.s (Le.s (Le.s (Le.s (Le.s (Le.s Le.nil))))))))
        · rintro s pre g post hx ⟨p1, p2⟩
          have hlen := congrArg List.length hx
          simp at hlen
          have hg : g ∈ ws := by rw [hx]; simp
          refine ⟨?_, _, ge_name, ?_⟩
          · unfold ostep
            have := ins_len s.kn g.l
            split <;> simp <;> omega
          · have item2 : ∀ {en : En}, en[7]? = some (.d g.d) → Ep P w K (tOp (rIxT K) (tVar 7) (tC (.int 2))) en (.tup (g.ps.map .str)) := fun h => ep_op (ep_var h) ep_int (itm (i := 2) rfl)
            have item0 : ∀ {en : En}, en[7]? = some (.d g.d) → Ep P w K (tOp (rIxT K) (tVar 7) (tC (.int 0))) en (.str g.l) := fun h => ep_op (ep_var h) ep_int (itm (i := 0) rfl)
            refine se_nc (se_le (se_if (b := g.ps.all fun p => decide (p ∈ s.kn)) (env1 := (En1 s).set 7 (.d g.d)) (te_p (tp_B (ep_is (ep_cb (ap_cons (ep_is (ep_new (np_mapT g.ps Dt.str (ip_tup (item2 rfl)) (by have := hp g hg; omega) (fun p => .bl (decide (p ∈ s.kn))) fun i p hip => ep_is (ep_din (kvs := kn s.kn) (k := .inr p) (edk_o rfl) ep_var) (by rw [val_kn]))) (e := .lst ((g.ps.map fun p => decide (p ∈ s.kn)).map .bl)) (by rw [List.map_map]; rfl)) ap_nil) rl_all) (by rw [List.all_map]; rfl)))) (o := .nx ((En1 (ostep s g)).set 7 (.d g.d))) (fun hb => ?_) (fun hb => ?_)) (Le.s (Le.s (Le.s (Le.s (Le.s (Le.s (Le.s (Le.x (Le.s Le.nil))))))))))
            · have e : ostep s g = ⟨ins s.kn g.l, s.fo ++ [g], s.le⟩ := if_pos hb
              rw [e]
              refine se_is (se_seq (se_dput (kvs := kn s.kn) (k := .inr g.l) (d := .bl true) (ee_p ep_bl) (item0 rfl) rfl (by rw [kn_len]; omega)) (se_app (xs := s.fo.map Gt.d) rfl (ee_p ep_var) rfl (by simp; omega))) ?_
              rw [put_kn]
              simp [En1]
            · have e : ostep s g = ⟨s.kn, s.fo, s.le ++ [g]⟩ := if_neg (by rw [hb]; exact Bool.false_ne_true)
              rw [e]
              refine se_is (se_app (xs := s.le.map Gt.d) rfl (ee_p ep_var) rfl (by simp; omega)) ?_
              simp [En1]
        · refine se_freeze (i := 6) (t' := none) (v := .lst ((opass k fo ws).le.map Gt.d)) rfl rfl ?_
          refine se_when (b := decide ((opass k fo ws).le.length = ws.length)) (te_p (tp_is (tp_test (ep_op (ep_cb (ap_cons (ep_var rfl) ap_nil) rl_len) (ep_cb (ap_cons (ep_var rfl) ap_nil) rl_len) r2_eqI)) ?_)) (fun hc => ?_) (fun hc => ?_)
          · rw [List.length_map, List.length_map]
            exact decide_eq_decide.mpr (by omega)
          · have hc := of_decide_eq_true hc
            rw [if_pos hc]
            have horder : order src gs = .error (((opass k fo ws).le.head?.map Gt.l).getD "") := by rw [← ho, hord, if_pos hc]
            rw [horder]
            cases hle : (opass k fo ws).le with
            | nil =>
              rw [hle] at hc
              exact absurd (List.length_eq_zero_iff.mp hc.symm) hne
            | cons g r =>
              refine se_seqF (se_lez (se_raise2 (d := .str "loop") (e := .str g.l) (ap_cons ep_str (ap_cons (ep_op (ep_op (d := .lst ((g :: r).map Gt.d)) (ep_var rfl) ep_int (itmL (i := 0) rfl)) ep_int (itm (i := 0) rfl)) ap_nil))) (le_x rfl))
          · have hc := of_decide_eq_false hc
            rw [if_neg hc]
            exact se_nc (se_le (se_asg (ee_p (ep_var rfl))) (Le.s (Le.s (Le.s (Le.s (Le.s (Le.s (Le.x (Le.s (Le.s Le.nil))))))))))
      · by_cases hc : (opass k fo ws).le.length = ws.length
        · rw [if_pos hc]
          have horder : order src gs = .error (((opass k fo ws).le.head?.map Gt.l).getD "") := by rw [← ho, hord, if_pos hc]
          rw [horder]
          exact .inr (.inl ⟨rfl, rfl, (fun _ z => nomatch z), (fun _ z => nomatch z)⟩)
        · rw [if_neg hc]
          refine .inl ⟨_, rfl, ⟨_, _, _, rfl, by omega, by omega, fun g h => hp g (q4 g h), n, by omega, by rw [← ho, hord, if_neg hc]⟩, ?_⟩
          show ((opass k fo ws).le.map Gt.d).length < (ws.map Gt.d).length
          simp
          omega
    · have hws : ws = [] := by
        cases ws with
        | nil => rfl
        | cons g r => cases hb
      subst hws
      have : order src gs = .ok (k, fo) := by rw [← ho]; cases n <;> rfl
      rw [this]
      rfl
  · cases order src gs with
    | ok l => exact .inl ⟨_, rfl, se_roV (t' := none) rfl⟩
    | error x => exact .inr ⟨rfl, rfl⟩
end
end CC
set_option maxHeartbeats 400000
namespace CC
open PySem PySem.Spec PyProof.Rows L2 Qw
open Evl hiding ea_cons
open Pw (Dt Rp RpL Wk R2d R1d RLd RLn Kq KqL truD flatD fl py pyL rangeD charsD spX2 Xm Xm0 tyD isI isB isS isTp isL rl_isInt rl_isBool rl_isStr rl_isTup rl_isList rl_int rl_max2 rl_min2 rl_len rl_lenT rl_tup rl_tupT rl_lenS rl_all rl_any rn_list rn_listT r2_I0 r2_B0 r2_eqI r2_neI r2_eqS r2_neS r2_eq r2_ne r2_I r2_inS r2_niS r2_in r2_inT r2_ixL r2_ixT r2_ixS r2_addS r2_eqD r2_neD r2_ixM r1_U ixN_at itemD cr_int cr_min2 cr_max2 cr_list cr_tuple cr_len pe_globI pe_globS pe_globR pe_tyname rTupS rInt1 rMin2)
local macro_rules | `(tactic| walk_at "side") => `(tactic| first
  | decide | omega | assumption | (show (0 : Int) < _; omega) | exact (show CDiv _ _ from ⟨by omega, by omega⟩) | exact (show CMul _ _ from Or.inr ⟨by omega, by omega⟩) | exact (show CMul _ _ from Or.inl ⟨by omega, by omega⟩) | exact (show CPow _ _ from ⟨by decide, by decide, by decide⟩))
local macro_rules | `(tactic| walk_at "op") => `(tactic| first
  | exact r2_I0 | exact r2_B0 | exact r2_eqI | exact r2_neI | exact r2_eqS | exact r2_neS
  | exact r2_eq rfl rfl rfl | exact r2_ne rfl rfl rfl
  | (refine' r2_I ?_; walk_at "side") | exact r2_inS | exact r2_niS)
local macro_rules | `(tactic| walk_at "rl") => `(tactic| first
  | exact rl_int | exact rl_max2 | exact rl_min2 | exact rl_len | exact rl_lenT | exact rl_isInt (by first | rfl | assumption) | exact rl_isBool (by first | rfl | assumption) | exact rl_isStr (by first | rfl | assumption) | exact rl_isTup (by first | rfl | assumption) | exact rl_isList (by first | rfl | assumption) | exact rl_tup | exact rl_tupT | (refine' rl_lenS ?_; walk_at "side"))
local macro_rules | `(tactic| walk_at "ap") => `(tactic| first
  | exact ap_nil
  | (refine' ap_cons ?eah ?eat; (case eah => walk_at "ep"); (case eat => walk_at "ap")))
local macro_rules | `(tactic| walk_at "ep") => `(tactic| first
  | exact ep_int | exact ep_bl | exact ep_str | exact ep_non | exact ep_ty | exact ep_var
  | (refine' ep_op ?eva ?evb ?evc; (case eva => walk_at "ep"); (case evb => walk_at "ep"); (case evc => walk_at "op"))
  | (refine' ep_cb ?evd ?eve; (case evd => walk_at "ap"); (case eve => walk_at "rl"))
  | (refine' ep_un ?evf r1_U; (case evf => walk_at "ep"))
  | (refine' ep_tup ?evg ?evi; (case evg => walk_at "ap"); (case evi => exact Nat.le_of_ble_eq_true rfl))
  | (refine' ep_lst ?evh ?evj; (case evh => walk_at "ap"); (case evj => exact Nat.le_of_ble_eq_true rfl))
  | assumption)
local macro_rules | `(tactic| walk_at "ee") => `(tactic| (refine' ee_p ?eep; (case eep => walk_at "ep")))
local macro_rules | `(tactic| walk_at "te") => `(tactic| (refine' te_p ?tep; (case tep => walk_at "tp")))
local macro_rules | `(tactic| walk_at "tp") => `(tactic| first
  | (refine' tp_test ?tea; (case tea => walk_at "ep"))
  | (refine' tp_B ?teb; (case teb => walk_at "ep"))
  | (refine' tp_not ?tec; (case tec => walk_at "tp"))
  | (refine' tp_or ?ted ?tee; (case ted => walk_at "tp"); (case tee => intro _; walk_at "tp"))
  | (refine' tp_and ?tef ?teg; (case tef => walk_at "tp"); (case teg => intro _; walk_at "tp"))
  | assumption)
section
variable {P : Program} {w : World} {K : PySem.W.Frag} {mg : Str → Option Value} {base : Heap}
abbrev RegT := Str × Str
def regD (r : RegT) : Dt := .tup [.str r.1, .str r.2]
def srcOf (is : List Str) (rs : List RegT) : List Str := is ++ rs.map Prod.fst
def linesOf (is : List Str) (rs : List RegT) (gs : List Gt) : List Str := srcOf is rs ++ gs.map Gt.l
def sinkOf (os : List Str) (rs : List RegT) : List Str := os ++ rs.map Prod.snd
/-- the parts, and what is far from any limit -/
structure Cp where
  is : List Str
  rs : List RegT
  gs : List Gt
  os : List Str
def Cp.ok (c : Cp) : Prop := c.is.length ≤ 1000 ∧ c.rs.length ≤ 1000 ∧ c.gs.length ≤ 1000 ∧ c.os.length ≤ 1000 ∧ ∀ g ∈ c.gs, g.ps.length ≤ 4
def CF : List Str := ["inputs", "registers", "gates", "outputs", "gate_of", "order"]
/-- an object that has the parts c among its fields -/
structure HasP (fs : List Str) (es : List Dt) (c : Cp) : Prop where
  i : (fs.zip es).lookup ("inputs" : Str) = some (Dt.tup (c.is.map .str))
  r : (fs.zip es).lookup ("registers" : Str) = some (Dt.tup (c.rs.map regD))
  g : (fs.zip es).lookup ("gates" : Str) = some (Dt.tup (c.gs.map Gt.d))
  o : (fs.zip es).lookup ("outputs" : Str) = some (Dt.tup (c.os.map .str))
  n : fs.contains ("sources" : Str) = false ∧ fs.contains ("lines" : Str) = false ∧ fs.contains ("sinks" : Str) = false ∧ fs.contains ("above" : Str) = false ∧ fs.contains ("parts" : Str) = false
def R_Circuit_sources (K : PySem.W.Frag) (ds : List Dt) (r : Rs) : Prop := ∃ fs es c, ds = [.obj (He.ga K "Circuit") fs es] ∧ HasP fs es c ∧ c.ok ∧ r = .o (.lst ((srcOf c.is c.rs).map .str))
def R_Circuit_lines (K : PySem.W.Frag) (ds : List Dt) (r : Rs) : Prop := ∃ fs es c, ds = [.obj (He.ga K "Circuit") fs es] ∧ HasP fs es c ∧ c.ok ∧ r = .o (.lst ((linesOf c.is c.rs c.gs).map .str))
def R_Circuit_sinks (K : PySem.W.Frag) (ds : List Dt) (r : Rs) : Prop := ∃ fs es c, ds = [.obj (He.ga K "Circuit") fs es] ∧ HasP fs es c ∧ c.ok ∧ r = .o (.lst ((sinkOf c.os c.rs).map .str))
def R_Circuit_parts (K : PySem.W.Frag) (ds : List Dt) (r : Rs) : Prop := ∃ fs es c, ds = [.obj (He.ga K "Circuit") fs es] ∧ HasP fs es c ∧ c.ok ∧ r = .d (.tup [.tup (c.is.map .str), .tup (c.rs.map regD), .tup (c.gs.map Gt.d), .tup (c.os.map .str)])
theorem l_Circuit_sources (K : PySem.W.Frag) (ds : List Dt) (r : Rs) (h : R_Circuit_sources K ds r) : ds.length = 1 := by
  obtain ⟨_, _, _, rfl, _⟩ := h
  rfl
theorem l_Circuit_lines (K : PySem.W.Frag) (ds : List Dt) (r : Rs) (h : R_Circuit_lines K ds r) : ds.length = 1 := by
  obtain ⟨_, _, _, rfl, _⟩ := h
  rfl
theorem l_Circuit_sinks (K : PySem.W.Frag) (ds : List Dt) (r : Rs) (h : R_Circuit_sinks K ds r) : ds.length = 1 := by
  obtain ⟨_, _, _, rfl, _⟩ := h
  rfl
theorem l_Circuit_parts (K : PySem.W.Frag) (ds : List Dt) (r : Rs) (h : R_Circuit_parts K ds r) : ds.length = 1 := by
  obtain ⟨_, _, _, rfl, _⟩ := h
  rfl
theorem Txt.na (T : Txt K mg) {f : Str} (h : f ∈ (["inputs", "registers", "gates", "outputs", "gate_of", "order"] : List Str) := by simp) : NoAttr K (He.ga K "Circuit") f := T.a_Circuit f h
theorem ep_reg {env : En} {i : Nat} {r : RegT} (h : env[i]? = some (.d (regD r))) : Ep P w K (tOp (rIxT K) (tVar i) (tC (.int 0))) env (.str r.1) ∧ Ep P w K (tOp (rIxT K) (tVar i) (tC (.int 1))) env (.str r.2) := ⟨ep_op (ep_var h) ep_int (itm (i := 0) rfl), ep_op (ep_var h) ep_int (itm (i := 1) rfl)⟩
theorem ep_gate {env : En} {i : Nat} {g : Gt} (h : env[i]? = some (.d g.d)) : Ep P w K (tOp (rIxT K) (tVar i) (tC (.int 0))) env (.str g.l) ∧ Ep P w K (tOp (rIxT K) (tVar i) (tC (.int 1))) env (.str g.k) ∧ Ep P w K (tOp (rIxT K) (tVar i) (tC (.int 2))) env (.tup (g.ps.map .str)) := ⟨ep_op (ep_var h) ep_int (itm (i := 0) rfl), ep_op (ep_var h) ep_int (itm (i := 1) rfl), ep_op (ep_var h) ep_int (itm (i := 2) rfl)⟩
abbrev N_Circuit_sources : List Str := ["self", "pair"]
theorem sc_Circuit_sources : FnScope N_Circuit_sources ["self"] (defScope s_Circuit_sources) := ⟨rfl, rfl, rfl, by decide +kernel, rfl, by decide +kernel, by decide +kernel⟩
theorem k_Circuit_sources (T : Txt K mg) (D : Dm K (He.ga K "Circuit") "sources" "Circuit.sources" ["self"] s_Circuit_sources)  : Mx P w K mg base 1 (He.ga K "Circuit") "sources" ["self"] (spR P w K (R_Circuit_sources K)) := by
  refine Mx.of D sc_Circuit_sources (l_Circuit_sources K) fun f cdv A outer s H E hr => ?_
  refine ⟨_, (pss_one (ps_ret (pe_lst (StX.pa_star (pe_fld (pv 0) rfl) (StX.pa_star (pe_lc (own := [("pair", 1)]) (g := gName 1) (tt := tYes) rfl sc_Circuit_sources.nd (pi_tup (pe_fld (pv 0) rfl)) (blkOk_by (N := N_Circuit_sources) (sc := defScope s_Circuit_sources) (by decide +kernel)) (fun _ _ _ _ _ => (pgn (i := 1) sc_Circuit_sources.nd)) (fun _ _ _ _ _ => pts_nil) (fun _ _ _ _ _ => (pe_ix (show IxR _ (rIxT K) from ix_tup) (pv 1) pe_int (fun _ _ => rfl)))) pa_nil))))), ?_⟩
  rintro ds r ⟨fs, es, c, rfl, hp, ⟨o1, o2, o3, o4, o5⟩, rfl⟩
  show Se P w K _ [.d _, .u] _
  refine se_is (se_ro (en_p (np_lst (ap_starT (ep_fld T.k_Circuit T.na ep_var hp.i) (ap_starL (ep_new (np_mapT c.rs regD (ip_tup (ep_fld T.k_Circuit T.na ep_var hp.r)) (by omega) (fun r => .str r.1) fun i r _ => (ep_reg rfl).1)) ap_nil)) (by simp; omega)))) ?_
  simp [srcOf]
abbrev N_Circuit_lines : List Str := ["self", "gate"]
theorem sc_Circuit_lines : FnScope N_Circuit_lines ["self"] (defScope s_Circuit_lines) := ⟨rfl, rfl, rfl, by decide +kernel, rfl, by decide +kernel, by decide +kernel⟩
theorem k_Circuit_lines (T : Txt K mg) (D : Dm K (He.ga K "Circuit") "lines" "Circuit.lines" ["self"] s_Circuit_lines)  (M_Circuit_sources : Mx P w K mg base 1 (He.ga K "Circuit") "sources" ["self"] (spR P w K (R_Circuit_sources K))) : Mx P w K mg base 2 (He.ga K "Circuit") "lines" ["self"] (spR P w K (R_Circuit_lines K)) := by
  refine Mx.of D sc_Circuit_lines (l_Circuit_lines K) fun f cdv A outer s H E hr => ?_
  refine ⟨_, (pss_one (ps_ret (pe_lst (StX.pa_star (pe_mx0 M_Circuit_sources T.k_Circuit (hr.mono (by decide)) (pv 0)) (StX.pa_star (pe_lc (own := [("gate", 1)]) (g := gName 1) (tt := tYes) rfl sc_Circuit_lines.nd (pi_tup (pe_fld (pv 0) rfl)) (blkOk_by (N := N_Circuit_lines) (sc := defScope s_Circuit_lines) (by decide +kernel)) (fun _ _ _ _ _ => (pgn (i := 1) sc_Circuit_lines.nd)) (fun _ _ _ _ _ => pts_nil) (fun _ _ _ _ _ => (pe_ix (show IxR _ (rIxT K) from ix_tup) (pv 1) pe_int (fun _ _ => rfl)))) pa_nil))))), ?_⟩
  rintro ds r ⟨fs, es, c, rfl, hp, hk, rfl⟩
  have ⟨o1, o2, o3, o4, o5⟩ := hk
  show Se P w K _ [.d _, .u] _
  refine se_is (se_ro (en_p (np_lst (ap_starL (po_dt (po_meth (u := .lst ((srcOf c.is c.rs).map .str)) ep_var ap_nil ⟨fs, es, c, rfl, hp, hk, rfl⟩ hp.n.1)) (ap_starL (ep_new (np_mapT c.gs Gt.d (ip_tup (ep_fld T.k_Circuit T.na ep_var hp.g)) (by omega) (fun g => .str g.l) fun i r _ => (ep_gate rfl).1)) ap_nil)) (by simp [srcOf]; omega)))) ?_
  simp [linesOf]
abbrev N_Circuit_sinks : List Str := ["self", "pair"]
theorem sc_Circuit_sinks : FnScope N_Circuit_sinks ["self"] (defScope s_Circuit_sinks) := ⟨rfl, rfl, rfl, by decide +kernel, rfl, by decide +kernel, by decide +kernel⟩
theorem k_Circuit_sinks (T : Txt K mg) (D : Dm K (He.ga K "Circuit") "sinks" "Circuit.sinks" ["self"] s_Circuit_sinks)  : Mx P w K mg base 1 (He.ga K "Circuit") "sinks" ["self"] (spR P w K (R_Circuit_sinks K)) := by
  refine Mx.of D sc_Circuit_sinks (l_Circuit_sinks K) fun f cdv A outer s H E hr => ?_
  refine ⟨_, (pss_one (ps_ret (pe_lst (StX.pa_star (pe_fld (pv 0) rfl) (StX.pa_star (pe_lc (own := [("pair", 1)]) (g := gName 1) (tt := tYes) rfl sc_Circuit_sinks.nd (pi_tup (pe_fld (pv 0) rfl)) (blkOk_by (N := N_Circuit_sinks) (sc := defScope s_Circuit_sinks) (by decide +kernel)) (fun _ _ _ _ _ => (pgn (i := 1) sc_Circuit_sinks.nd)) (fun _ _ _ _ _ => pts_nil) (fun _ _ _ _ _ => (pe_ix (show IxR _ (rIxT K) from ix_tup) (pv 1) pe_int (fun _ _ => rfl)))) pa_nil))))), ?_⟩
  rintro ds r ⟨fs, es, c, rfl, hp, ⟨o1, o2, o3, o4, o5⟩, rfl⟩
  show Se P w K _ [.d _, .u] _
  refine se_is (se_ro (en_p (np_lst (ap_starT (ep_fld T.k_Circuit T.na ep_var hp.o) (ap_starL (ep_new (np_mapT c.rs regD (ip_tup (ep_fld T.k_Circuit T.na ep_var hp.r)) (by omega) (fun r => .str r.2) fun i r _ => (ep_reg rfl).2)) ap_nil)) (by simp; omega)))) ?_
  simp [sinkOf]
abbrev N_Circuit_parts : List Str := ["self"]
theorem sc_Circuit_parts : FnScope N_Circuit_parts ["self"] (defScope s_Circuit_parts) := ⟨rfl, rfl, rfl, by decide +kernel, rfl, by decide +kernel, by decide +kernel⟩
theorem k_Circuit_parts (T : Txt K mg) (D : Dm K (He.ga K "Circuit") "parts" "Circuit.parts" ["self"] s_Circuit_parts)  : Mx P w K mg base 1 (He.ga K "Circuit") "parts" ["self"] (spR P w K (R_Circuit_parts K)) := by
  refine Mx.of D sc_Circuit_parts (l_Circuit_parts K) fun f cdv A outer s H E hr => ?_
  refine ⟨_, (pss_one (ps_ret (pe_tup (pa_cons (pe_fld (pv 0) rfl) (pa_cons (pe_fld (pv 0) rfl) (pa_cons (pe_fld (pv 0) rfl) (pa_cons (pe_fld (pv 0) rfl) pa_nil))))))), ?_⟩
  rintro ds r ⟨fs, es, c, rfl, hp, ⟨o1, o2, o3, o4, o5⟩, rfl⟩
  left
  show Se P w K _ [.d _] _
  exact se_ret (ee_p (ep_tup (ap_cons (ep_fld T.k_Circuit T.na ep_var hp.i) (ap_cons (ep_fld T.k_Circuit T.na ep_var hp.r) (ap_cons (ep_fld T.k_Circuit T.na ep_var hp.g) (ap_cons (ep_fld T.k_Circuit T.na ep_var hp.o) ap_nil))))))
end
end CC
set_option maxHeartbeats 400000
namespace CC
open PySem PySem.Spec PyProof.Rows L2 Qw
open Evl hiding ea_cons
open Pw (Dt Rp RpL Wk R2d R1d RLd RLn Kq KqL truD flatD fl py pyL rangeD charsD spX2 Xm Xm0 tyD isI isB isS isTp isL rl_isInt rl_isBool rl_isStr rl_isTup rl_isList rl_int rl_max2 rl_min2 rl_len rl_lenT rl_tup rl_tupT rl_lenS rl_all rl_any rn_list rn_listT r2_I0 r2_B0 r2_eqI r2_neI r2_eqS r2_neS r2_eq r2_ne r2_I r2_inS r2_niS r2_in r2_inT r2_ixL r2_ixT r2_ixS r2_addS r2_eqD r2_neD r2_ixM r1_U ixN_at itemD cr_int cr_min2 cr_max2 cr_list cr_tuple cr_len pe_globI pe_globS pe_globR pe_tyname rTupS rInt1 rMin2)
local macro_rules | `(tactic| walk_at "side") => `(tactic| first
  | decide | omega | assumption | (show (0 : Int) < _; omega) | exact (show CDiv _ _ from ⟨by omega, by omega⟩) | exact (show CMul _ _ from Or.inr ⟨by omega, by omega⟩) | exact (show CMul _ _ from Or.inl ⟨by omega, by omega⟩) | exact (show CPow _ _ from ⟨by decide, by decide, by decide⟩))
local macro_rules | `(tactic| walk_at "op") => `(tactic| first
  | exact r2_I0 | exact r2_B0 | exact r2_eqI | exact r2_neI | exact r2_eqS | exact r2_neS
  | exact r2_eq rfl rfl rfl | exact r2_ne rfl rfl rfl
  | (refine' r2_I ?_; walk_at "side") | exact r2_inS | exact r2_niS)
local macro_rules | `(tactic| walk_at "rl") => `(tactic| first
  | exact rl_int | exact rl_max2 | exact rl_min2 | exact rl_len | exact rl_lenT | exact rl_isInt (by first | rfl | assumption) | exact rl_isBool (by first | rfl | assumption) | exact rl_isStr (by first | rfl | assumption) | exact rl_isTup (by first | rfl | assumption) | exact rl_isList (by first | rfl | assumption) | exact rl_tup | exact rl_tupT | (refine' rl_lenS ?_; walk_at "side"))
local macro_rules | `(tactic| walk_at "ap") => `(tactic| first
  | exact ap_nil
  | (refine' ap_cons ?eah ?eat; (case eah => walk_at "ep"); (case eat => walk_at "ap")))
local macro_rules | `(tactic| walk_at "ep") => `(tactic| first
  | exact ep_int | exact ep_bl | exact ep_str | exact ep_non | exact ep_ty | exact ep_var
  | (refine' ep_op ?eva ?evb ?evc; (case eva => walk_at "ep"); (case evb => walk_at "ep"); (case evc => walk_at "op"))
  | (refine' ep_cb ?evd ?eve; (case evd => walk_at "ap"); (case eve => walk_at "rl"))
  | (refine' ep_un ?evf r1_U; (case evf => walk_at "ep"))
  | (refine' ep_tup ?evg ?evi; (case evg => walk_at "ap"); (case evi => exact Nat.le_of_ble_eq_true rfl))
  | (refine' ep_lst ?evh ?evj; (case evh => walk_at "ap"); (case evj => exact Nat.le_of_ble_eq_true rfl))
  | assumption)
local macro_rules | `(tactic| walk_at "ee") => `(tactic| (refine' ee_p ?eep; (case eep => walk_at "ep")))
local macro_rules | `(tactic| walk_at "te") => `(tactic| (refine' te_p ?tep; (case tep => walk_at "tp")))
local macro_rules | `(tactic| walk_at "tp") => `(tactic| first
  | (refine' tp_test ?tea; (case tea => walk_at "ep"))
  | (refine' tp_B ?teb; (case teb => walk_at "ep"))
  | (refine' tp_not ?tec; (case tec => walk_at "tp"))
  | (refine' tp_or ?ted ?tee; (case ted => walk_at "tp"); (case tee => intro _; walk_at "tp"))
  | (refine' tp_and ?tef ?teg; (case tef => walk_at "tp"); (case teg => intro _; walk_at "tp"))
  | assumption)
section
variable {P : Program} {w : World} {K : PySem.W.Frag} {mg : Str → Option Value} {base : Heap}
def formOk (is rs gs os : List Dt) : Bool := is.all isName && (os.all isName && (rs.all isReg && gs.all isGate))
def gmap (gs : List Gt) : KD := gs.map fun g => (Sum.inr g.l, g.d)
def circE (c : Cp) (ord : List Gt) : List Dt := [.tup (c.is.map .str), .tup (c.rs.map regD), .tup (c.gs.map Gt.d), .tup (c.os.map .str), dk (gmap c.gs), .lst (ord.map Gt.d)]
def usesOf (c : Cp) : List Str := (c.gs.flatMap Gt.ps ++ c.rs.map Prod.snd) ++ c.os
def ordI (K : PySem.W.Frag) (c : Cp) : Except Str (List Str × List Gt) → Ri
  | .ok l => .f CF (circE c l.2)
  | .error x => .x (badC K "loop" x)
def sizeI (K : PySem.W.Frag) (c : Cp) : Ri := if (linesOf c.is c.rs c.gs).length ≤ 400 ∧ (srcOf c.is c.rs).length ≤ 40 then ordI K c (order (srcOf c.is c.rs) c.gs) else .x (badC K "size" "")
def orI (f : Str → Xn) (z : Ri) : Option Str → Ri
  | none => z
  | some x => .x (f x)
def initR (K : PySem.W.Frag) (c : Cp) : Ri := orI (badC K "twice") (orI (badC K "unknown") (sizeI K c) ((usesOf c).find? fun y => !decide (y ∈ linesOf c.is c.rs c.gs))) (dupOf [] (linesOf c.is c.rs c.gs))
def seqOf (a : Dt) (xs : List Dt) : Prop := a = .tup xs ∨ a = .lst xs
def R_Circuit_init (K : PySem.W.Frag) (ds : List Dt) (r : Ri) : Prop := ∃ a1 a2 a3 a4 is rs gs os, ds = [a1, a2, a3, a4] ∧ (seqOf a1 is ∧ seqOf a2 rs ∧ seqOf a3 gs ∧ seqOf a4 os) ∧ (is.length ≤ 1000 ∧ rs.length ≤ 1000 ∧ gs.length ≤ 1000 ∧ os.length ≤ 1000) ∧ (is.all okS = true ∧ rs.all okR = true ∧ gs.all okG = true ∧ os.all okS = true) ∧
  ((formOk is rs gs os = false ∧ r = .x (badC K "form" "")) ∨ (formOk is rs gs os = true ∧ ∃ c : Cp, is = c.is.map .str ∧ rs = c.rs.map regD ∧ gs = c.gs.map Gt.d ∧ os = c.os.map .str ∧ c.ok ∧ r = initR K c))
theorem l_Circuit_init (K : PySem.W.Frag) (ds : List Dt) (r : Ri) (h : R_Circuit_init K ds r) : ds.length + 1 = 5 := by
  obtain ⟨_, _, _, _, _, _, _, _, rfl, _⟩ := h
  rfl
def iOut (E : XK) (C p : Addr) : Ri → Out
  | .f fs es => .nx (.ow (some p) (.ins C fs es) :: List.replicate 9 .x)
  | .x y => .rz (fun cls d _ H => E cls d H) y (List.replicate 10 .x)
theorem does_i {E : XK} {C p : Addr} {s : TS} {env : En} {r : Ri} (h : Se P w K s env (iOut E C p r)) : DoesI P w K E C p s env r := by
  cases r with
  | f fs es => exact ⟨_, rfl, h⟩
  | x y => exact ⟨_, h⟩
theorem ep_tuple {env : En} {i : Nat} {a : Dt} {xs : List Dt} (hi : env[i]? = some (.d a)) (h : seqOf a xs) : Ep P w K (tCB (rTupS K) (tCons (tVar i) tNil)) env (.tup xs) := by
  rcases h with rfl | rfl
  · exact ep_cb (ap_cons (ep_var hi) ap_nil) rl_tupT
  · exact ep_cb (ap_cons (ep_var hi) ap_nil) rl_tup
def rsOut (E : XK) (env : En) : Rs → Out
  | .x y => .rz (fun cls d _ H => E cls d H) y (List.replicate env.length .x)
  | _ => .nx env
/-- a check called as a statement -/
theorem se_chk {E : XK} {env : En} {tA : TA} {ds : List Dt} {R : List Dt → Rs → Prop} {r : Rs} (h : EpA P w K tA env ds) (hf : R ds r) (hr : ∀ u, r ≠ .o u) : Se P w K (tDrop (tCallS (spR P w K R) (WE fun cls d _ H => E cls d H) tA)) env (rsOut E env r) := by
  cases r with
  | d d => exact se_drop (ee_p (ep_callS h hf))
  | o u => exact absurd rfl (hr u)
  | x y => exact se_lez (se_dropX (er_callS h hf)) (le_x rfl)
theorem orX_no {f : Str → Xn} {o : Option Str} (u : Ow) : orX f o ≠ .o u := by
  cases o <;> intro z <;> cases z
theorem nodup_of : ∀ (xs seen : List Str), seen.Nodup → dupOf seen xs = none → (seen ++ xs).Nodup
  | [], seen, hs, _ => by simpa using hs
  | a :: xs, seen, hs, h => by
    have hd : ¬ a ∈ seen := fun e => by simp [dupOf, e] at h
    have h' : dupOf (seen ++ [a]) xs = none := by simpa [dupOf, hd] using h
    have := nodup_of xs (seen ++ [a]) (by
      rw [List.nodup_append]
      exact ⟨hs, by simp, fun x hx y hy => by
        simp at hy
        subst hy
        exact fun e => hd (e ▸ hx)⟩) h'
    simpa [List.append_assoc] using this
theorem put_new {kvs : KD} {k : Key} {d : Dt} (h : ∀ p ∈ kvs, p.1 ≠ k) : putD kvs k d = kvs ++ [(k, d)] := by
  unfold putD
  rw [if_neg]
  intro z
  obtain ⟨p, hp, e⟩ := List.any_eq_true.mp z
  exact h p hp (of_decide_eq_true e)
theorem gmap_fold : ∀ (gs pre : List Gt), ((pre ++ gs).map Gt.l).Nodup → (gs.filter fun _ => true).foldl (fun q g => putD q (.inr g.l) g.d) (gmap pre) = gmap (pre ++ gs) := by
  intro gs
  rw [show gs.filter (fun _ => true) = gs by simp]
  induction gs with
  | nil => intro pre _; simp
  | cons g gs ih =>
    intro pre h
    rw [List.foldl_cons, put_new]
    · have e : gmap pre ++ [((Sum.inr g.l : Key), g.d)] = gmap (pre ++ [g]) := by simp [gmap]
      rw [e, ih (pre ++ [g]) (by simpa [List.append_assoc] using h)]
      simp
    · intro p hp e
      obtain ⟨g', hg', rfl⟩ := List.mem_map.mp hp
      have e' : g'.l = g.l := Sum.inr.inj e
      rw [List.map_append, List.nodup_append] at h
      exact h.2.2 g'.l (List.mem_map_of_mem hg') g.l (by simp) e'
set_option maxHeartbeats 4000000
abbrev N_Circuit_init : List Str := ["self", "inputs", "registers", "gates", "outputs", "pins", "gate", "pin", "taken", "pair"]
theorem sc_Circuit_init : FnScope N_Circuit_init ["self", "inputs", "registers", "gates", "outputs"] (defScope s_Circuit_init) := ⟨rfl, rfl, rfl, by decide +kernel, rfl, by decide +kernel, by decide +kernel⟩
theorem k_Circuit_init (T : Txt K mg) (D : Di K mg (He.ga K "Circuit") "Circuit" "Circuit.__init__" ["self", "inputs", "registers", "gates", "outputs"] s_Circuit_init)  (G__check_form : Fx P w K mg base 4 "_check_form" ["inputs", "registers", "gates", "outputs"] (spR P w K (R_check_form K))) (G__check_driven_once : Fx P w K mg base 3 "_check_driven_once" ["lines"] (spR P w K (R_check_driven_once K))) (M_Circuit_lines : Mx P w K mg base 2 (He.ga K "Circuit") "lines" ["self"] (spR P w K (R_Circuit_lines K))) (G__check_known : Fx P w K mg base 3 "_check_known" ["lines", "names"] (spR P w K (R_check_known K))) (G__check_size : Fx P w K mg base 3 "_check_size" ["lines", "sources"] (spR P w K (R_check_size K))) (M_Circuit_sources : Mx P w K mg base 1 (He.ga K "Circuit") "sources" ["self"] (spR P w K (R_Circuit_sources K))) (G__in_order : Fx P w K mg base 3 "_in_order" ["sources", "gates"] (spR P w K (R_in_order K))) : Ix P w K mg base 5 (He.ga K "Circuit") "Circuit" ["self", "inputs", "registers", "gates", "outputs"] (spI P w K (He.ga K "Circuit") (R_Circuit_init K)) := by
  refine Ix.of D sc_Circuit_init (l_Circuit_init K) fun f cdv A outer s H E hr tk => ?_
  refine ⟨_, (pss_cons (ps_fld (pv 0) (pe_callTy cr_tuple (by rfl) T.f_tuple (by decide +kernel) (pa_cons (pv 1) pa_nil)) rfl)
      (pss_cons (ps_fld (pv 0) (pe_callTy cr_tuple (by rfl) T.f_tuple (by decide +kernel) (pa_cons (pv 2) pa_nil)) rfl)
      (pss_cons (ps_fld (pv 0) (pe_callTy cr_tuple (by rfl) T.f_tuple (by decide +kernel) (pa_cons (pv 3) pa_nil)) rfl)
      (pss_cons (ps_fld (pv 0) (pe_callTy cr_tuple (by rfl) T.f_tuple (by decide +kernel) (pa_cons (pv 4) pa_nil)) rfl)
      (pss_cons (ps_expr (pe_fxS G__check_form (hr.mono (by decide)) tk (pa_cons (pe_fld (pv 0) rfl) (pa_cons (pe_fld (pv 0) rfl) (pa_cons (pe_fld (pv 0) rfl) (pa_cons (pe_fld (pv 0) rfl) pa_nil))))))
      (pss_cons (ps_expr (pe_fxS G__check_driven_once (hr.mono (by decide)) tk (pa_cons (pe_mx0 M_Circuit_lines T.k_Circuit (hr.mono (by decide)) (pv 0)) pa_nil)))
      (pss_cons (ps_setLc2 (i := 5) (own := [("gate", 6), ("pin", 7)]) (vs1 := [7]) (g := gName 6) (g1 := gName 7) (tt := tYes) (tt1 := tYes) rfl sc_Circuit_init.nd rfl rfl (sw_true rfl rfl rfl (by decide +kernel)) (pi_tup (pe_fld (pv 0) rfl)) (blkOk_by (N := N_Circuit_init) (sc := defScope s_Circuit_init) (by decide +kernel)) (by decide) (fun _ _ _ _ _ => (pgn (i := 6) sc_Circuit_init.nd)) (fun _ _ _ _ _ => pts_nil) (fun _ _ _ _ _ => (show PI _ _ _ (iTup K _) from (pi_tup (pe_ix (show IxR _ (rIxT K) from ix_tup) (pv 6) pe_int (fun _ _ => rfl))))) (fun _ _ _ _ _ => (pgn (i := 7) sc_Circuit_init.nd)) (fun _ _ _ _ _ => pts_nil) (fun _ _ _ _ _ => (pv 7)))
      (pss_cons (ps_setLc (i := 8) (own := [("pair", 9)]) (g := gName 9) (tt := tYes) rfl sc_Circuit_init.nd rfl rfl (sw_true rfl rfl rfl (by decide +kernel)) (pi_tup (pe_fld (pv 0) rfl)) (blkOk_by (N := N_Circuit_init) (sc := defScope s_Circuit_init) (by decide +kernel)) (fun _ _ _ _ _ => (pgn (i := 9) sc_Circuit_init.nd)) (fun _ _ _ _ _ => pts_nil) (fun _ _ _ _ _ => (pe_ix (show IxR _ (rIxT K) from ix_tup) (pv 9) pe_int (fun _ _ => rfl))))
      (pss_cons (ps_expr (pe_fxS G__check_known (hr.mono (by decide)) tk (pa_cons (pe_mx0 M_Circuit_lines T.k_Circuit (hr.mono (by decide)) (pv 0)) (pa_cons (pe_lst (StX.pa_star (pv 5) (StX.pa_star (pv 8) (StX.pa_star (pe_fld (pv 0) rfl) pa_nil)))) pa_nil))))
      (pss_cons (ps_expr (pe_fxS G__check_size (hr.mono (by decide)) tk (pa_cons (pe_mx0 M_Circuit_lines T.k_Circuit (hr.mono (by decide)) (pv 0)) (pa_cons (pe_mx0 M_Circuit_sources T.k_Circuit (hr.mono (by decide)) (pv 0)) pa_nil))))
      (pss_cons (ps_fld (pv 0) (pe_dc (own := [("gate", 6)]) (g := gName 6) (tt := tYes) rfl sc_Circuit_init.nd (pi_tup (pe_fld (pv 0) rfl)) (blkOk_by (N := N_Circuit_init) (sc := defScope s_Circuit_init) (by decide +kernel)) (fun _ _ _ _ _ => (pgn (i := 6) sc_Circuit_init.nd)) (fun _ _ _ _ _ => pts_nil) (fun _ _ _ _ _ => (pe_ix (show IxR _ (rIxT K) from ix_tup) (pv 6) pe_int (fun _ _ => rfl))) (fun _ _ _ _ _ => (pv 6))) rfl)
      (pss_one (ps_fld (pv 0) (pe_fxS G__in_order (hr.mono (by decide)) tk (pa_cons (pe_mx0 M_Circuit_sources T.k_Circuit (hr.mono (by decide)) (pv 0)) (pa_cons (pe_fld (pv 0) rfl) pa_nil))) rfl))))))))))))), ?_⟩
  rintro p ds r ⟨a1, a2, a3, a4, is, rs, gs, os, rfl, ⟨s1, s2, s3, s4⟩, ⟨n1, n2, n3, n4⟩, ⟨o1, o2, o3, o4⟩, hr⟩
  refine does_i ?_
  show Se P w K _ [.ow (some p) (.ins (He.ga K "Circuit") [] []), .d a1, .d a2, .d a3, .d a4, .u, .u, .u, .u, .u] _
  refine se_seq (se_fldN T.k_Circuit T.na (ee_p (ep_tuple rfl s1))) ?_
  refine se_seq (se_fldN T.k_Circuit T.na (ee_p (ep_tuple rfl s2))) ?_
  refine se_seq (se_fldN T.k_Circuit T.na (ee_p (ep_tuple rfl s3))) ?_
  refine se_seq (se_fldN T.k_Circuit T.na (ee_p (ep_tuple rfl s4))) ?_
  show Se P w K _ [.ow (some p) (.ins (He.ga K "Circuit") ["inputs", "registers", "gates", "outputs"] [.tup is, .tup rs, .tup gs, .tup os]), .d a1, .d a2, .d a3, .d a4, .u, .u, .u, .u, .u] _
  have fi : ∀ {en : En}, en[0]? = some (.ow (some p) (.ins (He.ga K "Circuit") ["inputs", "registers", "gates", "outputs"] [.tup is, .tup rs, .tup gs, .tup os])) → Ep P w K (tFld K (tVar 0) "inputs") en (.tup is) ∧ Ep P w K (tFld K (tVar 0) "registers") en (.tup rs) ∧ Ep P w K (tFld K (tVar 0) "gates") en (.tup gs) ∧ Ep P w K (tFld K (tVar 0) "outputs") en (.tup os) := fun h => ⟨ep_fldO T.k_Circuit T.na h rfl, ep_fldO T.k_Circuit T.na h rfl, ep_fldO T.k_Circuit T.na h rfl, ep_fldO T.k_Circuit T.na h rfl⟩
  refine se_seqO (se_chk (ap_cons (fi rfl).1 (ap_cons (fi rfl).2.1 (ap_cons (fi rfl).2.2.1 (ap_cons (fi rfl).2.2.2 ap_nil)))) ⟨is, rs, gs, os, rfl, ⟨by omega, by omega, by omega, by omega⟩, ⟨o1, o2, o3, o4⟩, rfl⟩ (fun u => by split <;> intro z <;> cases z)) ?_
  rcases hr with ⟨hf, rfl⟩ | ⟨hf, c, rfl, rfl, rfl, rfl, hok, rfl⟩
  · right
    unfold formOk at hf
    rw [if_neg (by rw [hf]; exact Bool.false_ne_true)]
    exact ⟨rfl, rfl⟩
  left
  unfold formOk at hf
  rw [if_pos hf]
  refine ⟨_, rfl, ?_⟩
  have ⟨b1, b2, b3, b4, b5⟩ := hok
  have hP : HasP ["inputs", "registers", "gates", "outputs"] [.tup (c.is.map .str), .tup (c.rs.map regD), .tup (c.gs.map Gt.d), .tup (c.os.map .str)] c := ⟨rfl, rfl, rfl, rfl, by decide +kernel⟩
  have eL : ∀ {en : En}, en[0]? = some (.ow (some p) (.ins (He.ga K "Circuit") ["inputs", "registers", "gates", "outputs"] [.tup (c.is.map .str), .tup (c.rs.map regD), .tup (c.gs.map Gt.d), .tup (c.os.map .str)])) → Ep P w K (tMeth (He.ga K "Circuit") "lines" (spR P w K (R_Circuit_lines K)) [] E0 (tVar 0) tNil) en (.lst ((linesOf c.is c.rs c.gs).map .str)) := fun h => po_dt (po_methL (zs := (linesOf c.is c.rs c.gs).map .str) h ⟨_, _, c, rfl, hP, hok, rfl⟩ (flat_strsD _))
  have eS : ∀ {en : En}, en[0]? = some (.ow (some p) (.ins (He.ga K "Circuit") ["inputs", "registers", "gates", "outputs"] [.tup (c.is.map .str), .tup (c.rs.map regD), .tup (c.gs.map Gt.d), .tup (c.os.map .str)])) → Ep P w K (tMeth (He.ga K "Circuit") "sources" (spR P w K (R_Circuit_sources K)) [] E0 (tVar 0) tNil) en (.lst ((srcOf c.is c.rs).map .str)) := fun h => po_dt (po_methL (zs := (srcOf c.is c.rs).map .str) h ⟨_, _, c, rfl, hP, hok, rfl⟩ (flat_strsD _))
  have hll : (linesOf c.is c.rs c.gs).length ≤ 3000 := by simp [linesOf, srcOf]; omega
  refine se_seqO (se_chk (ap_cons (eL rfl) ap_nil) ⟨_, rfl, hll, rfl⟩ orX_no) ?_
  cases hd : dupOf [] (linesOf c.is c.rs c.gs) with
  | some x =>
    right
    refine ⟨rfl, ?_⟩
    unfold initR
    rw [hd]
    rfl
  | none =>
    left
    refine ⟨_, rfl, ?_⟩
    have htot : ((c.gs.flatMap fun g => g.ps.map Dt.str)).length ≤ 40000 := by
      have : ∀ l : List Gt, (∀ g ∈ l, g.ps.length ≤ 4) → (l.flatMap fun g => g.ps.map Dt.str).length ≤ 4 * l.length := by
        intro l
        induction l with
        | nil => intro _; simp
        | cons g l ih =>
          intro h
          have h1 := ih fun x hx => h x (by simp [hx])
          have h2 := h g (by simp)
          simp only [List.flatMap_cons, List.length_append, List.length_map, List.length_cons]
          omega
      have := this c.gs b5
      omega
    refine se_seq (se_asg (d := .lst ((c.gs.flatMap Gt.ps).map .str)) (ee_p (ep_new (by
      have h := np_lc2T (P := P) (w := w) (K := K) (te := tVar 7) (g := gName 6) (g1 := gName 7) (vs := [6, 7]) (vs1 := [7]) (wi := iTup K (tFld K (tVar 0) "gates")) (wi1 := iTup K (tOp (rIxT K) (tVar 6) (tC (.int 2)))) (env := [.ow (some p) (.ins (He.ga K "Circuit") ["inputs", "registers", "gates", "outputs"] [.tup (c.is.map .str), .tup (c.rs.map regD), .tup (c.gs.map Gt.d), .tup (c.os.map .str)]), .d a1, .d a2, .d a3, .d a4, .u, .u, .u, .u, .u]) c.gs Gt.d (ip_tup (fi rfl).2.2.1) (fun g => g.ps.map .str) htot id fun i g hg => ⟨_, fun F0 H0 F H σ v S r Q q => q _ (by simp only [L2.wipe]; apply List.ext_getElem?; intro i; simp only [List.getElem?_set, List.length_set]; by_cases e1 : 6 = i <;> by_cases e2 : 7 = i <;> simp [e1, e2]) (fun _ h => own_set h) (S.setD r), ip_tup (ep_gate rfl).2.2, fun d hd => ⟨_, gc_name, ep_var⟩⟩
      rw [List.map_id] at h
      have e : (c.gs.flatMap fun g => g.ps.map Dt.str) = (c.gs.flatMap Gt.ps).map Dt.str := by rw [List.map_flatMap]
      rw [e] at h
      exact h)))) ?_
    refine se_seq (se_asg (d := .lst (c.rs.map fun (r : RegT) => Dt.str r.2)) (ee_p (ep_new (np_mapT c.rs regD (ip_tup (fi rfl).2.1) (by omega) (fun r => .str r.2) fun i r _ => (ep_reg rfl).2)))) ?_
    show Se P w K _ [.ow (some p) (.ins (He.ga K "Circuit") ["inputs", "registers", "gates", "outputs"] [.tup (c.is.map .str), .tup (c.rs.map regD), .tup (c.gs.map Gt.d), .tup (c.os.map .str)]), .d a1, .d a2, .d a3, .d a4, .d (.lst ((c.gs.flatMap Gt.ps).map .str)), .u, .u, .d (.lst (c.rs.map fun (r : RegT) => Dt.str r.2)), .u] _
    have hu2 : (usesOf c).length ≤ 40000 := by
      have e : (c.gs.flatMap Gt.ps).length = (c.gs.flatMap fun g => g.ps.map Dt.str).length := by
        rw [show (c.gs.flatMap fun g => g.ps.map Dt.str) = (c.gs.flatMap Gt.ps).map Dt.str by rw [List.map_flatMap], List.length_map]
      have h4 : (c.gs.flatMap fun g => g.ps.map Dt.str).length ≤ 4000 := by
        have : ∀ l : List Gt, (∀ g ∈ l, g.ps.length ≤ 4) → (l.flatMap fun g => g.ps.map Dt.str).length ≤ 4 * l.length := by
          intro l
          induction l with
          | nil => intro _; simp
          | cons g l ih =>
            intro h
            have h1 := ih fun x hx => h x (by simp [hx])
            have h2 := h g (by simp)
            simp only [List.flatMap_cons, List.length_append, List.length_map, List.length_cons]
            omega
        have := this c.gs b5
        omega
      simp only [usesOf, List.length_append, List.length_map]
      omega
    refine se_seqO (se_chk (ap_cons (eL rfl) (ap_cons (d := .lst ((usesOf c).map .str)) (ep_is (ep_lst (ap_starL ep_var (ap_starL ep_var (ap_starT (fi rfl).2.2.2 ap_nil))) (by
      have := hu2
      simp only [usesOf, List.length_append, List.length_map] at this
      simp only [List.length_append, List.length_map, List.length_nil]
      omega)) (by simp [usesOf])) ap_nil)) ⟨_, _, rfl, hll, hu2, rfl⟩ orX_no) ?_
    cases hk : (usesOf c).find? fun y => !decide (y ∈ linesOf c.is c.rs c.gs) with
    | some x =>
      right
      refine ⟨rfl, ?_⟩
      unfold initR
      rw [hd, hk]
      rfl
    | none =>
      left
      refine ⟨_, rfl, ?_⟩
      refine se_seqO (se_chk (ap_cons (eL rfl) (ap_cons (eS rfl) ap_nil)) ⟨_, _, rfl, rfl⟩ (fun u => by split <;> intro z <;> cases z)) ?_
      rw [List.length_map, List.length_map]
      by_cases hz : (linesOf c.is c.rs c.gs).length ≤ 400 ∧ (srcOf c.is c.rs).length ≤ 40
      · left
        rw [if_pos hz]
        refine ⟨_, rfl, ?_⟩
        have nd := nodup_of _ [] List.nodup_nil hd
        have nd2 : (c.gs.map Gt.l).Nodup := by
          have : (linesOf c.is c.rs c.gs).Nodup := by simpa using nd
          unfold linesOf at this
          rw [List.nodup_append] at this
          exact this.2.1
        refine se_seq (se_fldN (d := dk (gmap c.gs)) T.k_Circuit T.na (ee_p (po_dt (by
          have h := po_dc (P := P) (w := w) (K := K) (tt := tYes) (ty := tOp (rIxT K) (tVar 6) (tC (.int 0))) (te := tVar 6) (g := gName 6) (wi := iTup K (tFld K (tVar 0) "gates")) (env := [.ow (some p) (.ins (He.ga K "Circuit") ["inputs", "registers", "gates", "outputs"] [.tup (c.is.map .str), .tup (c.rs.map regD), .tup (c.gs.map Gt.d), .tup (c.os.map .str)]), .d a1, .d a2, .d a3, .d a4, .d (.lst ((c.gs.flatMap Gt.ps).map .str)), .u, .u, .d (.lst (c.rs.map fun (r : RegT) => Dt.str r.2)), .u]) (vs := [6]) c.gs Gt.d (ip_tup (fi rfl).2.2.1) (by omega) (fun _ => true) (fun g => Sum.inr g.l) (fun g => g.d) fun i a h => ⟨_, gc_name, tp_yes, fun _ => ⟨(ep_gate rfl).1, ep_var⟩⟩
          rw [show (c.gs.filter fun _ => true).foldl (fun q g => putD q (Sum.inr g.l) g.d) [] = gmap c.gs from gmap_fold c.gs [] (by simpa using nd2)] at h
          exact h)))) ?_
        have hP5 : HasP ["inputs", "registers", "gates", "outputs", "gate_of"] [.tup (c.is.map .str), .tup (c.rs.map regD), .tup (c.gs.map Gt.d), .tup (c.os.map .str), dk (gmap c.gs)] c := ⟨rfl, rfl, rfl, rfl, by decide +kernel⟩
        have args : EpA P w K (tCons (tMeth (He.ga K "Circuit") "sources" (spR P w K (R_Circuit_sources K)) [] E0 (tVar 0) tNil) (tCons (tFld K (tVar 0) "gates") tNil)) [.ow (some p) (.ins (He.ga K "Circuit") ["inputs", "registers", "gates", "outputs", "gate_of"] [.tup (c.is.map .str), .tup (c.rs.map regD), .tup (c.gs.map Gt.d), .tup (c.os.map .str), dk (gmap c.gs)]), .d a1, .d a2, .d a3, .d a4, .d (.lst ((c.gs.flatMap Gt.ps).map .str)), .u, .u, .d (.lst (c.rs.map fun (r : RegT) => Dt.str r.2)), .u] [.lst ((srcOf c.is c.rs).map .str), .tup (c.gs.map Gt.d)] :=
          ap_cons (po_dt (po_methL (zs := (srcOf c.is c.rs).map .str) rfl ⟨_, _, c, rfl, hP5, hok, rfl⟩ (flat_strsD _))) (ap_cons (ep_fldO T.k_Circuit T.na rfl rfl) ap_nil)
        have hargs : R_in_order K [.lst ((srcOf c.is c.rs).map .str), .tup (c.gs.map Gt.d)] (ordR K (order (srcOf c.is c.rs) c.gs)) := ⟨_, _, rfl, ⟨by omega, by omega, fun g hg => by have := b5 g hg; omega⟩, rfl⟩
        have e : initR K c = ordI K c (order (srcOf c.is c.rs) c.gs) := by
          unfold initR
          rw [hd, hk]
          show sizeI K c = _
          unfold sizeI
          rw [if_pos hz]
        rw [e]
        cases ho : order (srcOf c.is c.rs) c.gs with
        | error x =>
          rw [ho] at hargs
          exact se_lez (se_fldX (er_callS args hargs)) (le_x rfl)
        | ok l =>
          rw [ho] at hargs
          exact se_le (se_fldN (t' := some p) (fs := ["inputs", "registers", "gates", "outputs", "gate_of"]) (ds := [.tup (c.is.map .str), .tup (c.rs.map regD), .tup (c.gs.map Gt.d), .tup (c.os.map .str), dk (gmap c.gs)]) (d := .lst (l.2.map Gt.d)) T.k_Circuit T.na (ee_p (po_dt (po_callS args hargs)))) (Le.s (Le.x (Le.x (Le.x (Le.x (Le.x (Le.x (Le.x (Le.x (Le.x Le.nil))))))))))
      · right
        rw [if_neg hz]
        refine ⟨rfl, ?_⟩
        unfold initR
        rw [hd, hk]
        show iOut E _ p (sizeI K c) = _
        unfold sizeI
        rw [if_neg hz]
        rfl
end
end CC
set_option maxHeartbeats 400000
namespace CC
open PySem PySem.Spec PyProof.Rows L2 Qw
open Evl hiding ea_cons
open Pw (Dt Rp RpL Wk R2d R1d RLd RLn Kq KqL truD flatD fl py pyL rangeD charsD spX2 Xm Xm0 tyD isI isB isS isTp isL rl_isInt rl_isBool rl_isStr rl_isTup rl_isList rl_int rl_max2 rl_min2 rl_len rl_lenT rl_tup rl_tupT rl_lenS rl_all rl_any rn_list rn_listT r2_I0 r2_B0 r2_eqI r2_neI r2_eqS r2_neS r2_eq r2_ne r2_I r2_inS r2_niS r2_in r2_inT r2_ixL r2_ixT r2_ixS r2_addS r2_eqD r2_neD r2_ixM r1_U ixN_at itemD cr_int cr_min2 cr_max2 cr_list cr_tuple cr_len pe_globI pe_globS pe_globR pe_tyname rTupS rInt1 rMin2)
local macro_rules | `(tactic| walk_at "side") => `(tactic| first
  | decide | omega | assumption | (show (0 : Int) < _; omega) | exact (show CDiv _ _ from ⟨by omega, by omega⟩) | exact (show CMul _ _ from Or.inr ⟨by omega, by omega⟩) | exact (show CMul _ _ from Or.inl ⟨by omega, by omega⟩) | exact (show CPow _ _ from ⟨by decide, by decide, by decide⟩))
local macro_rules | `(tactic| walk_at "op") => `(tactic| first
  | exact r2_I0 | exact r2_B0 | exact r2_eqI | exact r2_neI | exact r2_eqS | exact r2_neS
  | exact r2_eq rfl rfl rfl | exact r2_ne rfl rfl rfl
  | (refine' r2_I ?_; walk_at "side") | exact r2_inS | exact r2_niS)
local macro_rules | `(tactic| walk_at "rl") => `(tactic| first
  | exact rl_int | exact rl_max2 | exact rl_min2 | exact rl_len | exact rl_lenT | exact rl_isInt (by first | rfl | assumption) | exact rl_isBool (by first | rfl | assumption) | exact rl_isStr (by first | rfl | assumption) | exact rl_isTup (by first | rfl | assumption) | exact rl_isList (by first | rfl | assumption) | exact rl_tup | exact rl_tupT | (refine' rl_lenS ?_; walk_at "side"))
local macro_rules | `(tactic| walk_at "ap") => `(tactic| first
  | exact ap_nil
  | (refine' ap_cons ?eah ?eat; (case eah => walk_at "ep"); (case eat => walk_at "ap")))
local macro_rules | `(tactic| walk_at "ep") => `(tactic| first
  | exact ep_int | exact ep_bl | exact ep_str | exact ep_non | exact ep_ty | exact ep_var
  | (refine' ep_op ?eva ?evb ?evc; (case eva => walk_at "ep"); (case evb => walk_at "ep"); (case evc => walk_at "op"))
  | (refine' ep_cb ?evd ?eve; (case evd => walk_at "ap"); (case eve => walk_at "rl"))
  | (refine' ep_un ?evf r1_U; (case evf => walk_at "ep"))
  | (refine' ep_tup ?evg ?evi; (case evg => walk_at "ap"); (case evi => exact Nat.le_of_ble_eq_true rfl))
  | (refine' ep_lst ?evh ?evj; (case evh => walk_at "ap"); (case evj => exact Nat.le_of_ble_eq_true rfl))
  | assumption)
local macro_rules | `(tactic| walk_at "ee") => `(tactic| (refine' ee_p ?eep; (case eep => walk_at "ep")))
local macro_rules | `(tactic| walk_at "te") => `(tactic| (refine' te_p ?tep; (case tep => walk_at "tp")))
local macro_rules | `(tactic| walk_at "tp") => `(tactic| first
  | (refine' tp_test ?tea; (case tea => walk_at "ep"))
  | (refine' tp_B ?teb; (case teb => walk_at "ep"))
  | (refine' tp_not ?tec; (case tec => walk_at "tp"))
  | (refine' tp_or ?ted ?tee; (case ted => walk_at "tp"); (case tee => intro _; walk_at "tp"))
  | (refine' tp_and ?tef ?teg; (case tef => walk_at "tp"); (case teg => intro _; walk_at "tp"))
  | assumption)
section
variable {P : Program} {w : World} {K : PySem.W.Frag} {mg : Str → Option Value} {base : Heap}
def circD (K : PySem.W.Frag) (c : Cp) (ord : List Gt) : Dt := .obj (He.ga K "Circuit") CF (circE c ord)
def pinsOf (gs : List Gt) (x : Str) : List Str := ((gs.find? fun g => decide (g.l = x)).map Gt.ps).getD []
def abStep (s : List Str × List Str) (p : Str) : List Str × List Str := if p ∈ s.1 then s else (s.1 ++ [p], s.2 ++ [p])
def abN (gs : List Gt) : Nat → List Str → List Str → List Str
  | 0, f, _ => f
  | n + 1, f, ws => match ws.getLast? with
    | none => f
    | some x => abN gs n ((pinsOf gs x).foldl abStep (f, ws.dropLast)).1 ((pinsOf gs x).foldl abStep (f, ws.dropLast)).2
def aboveL (gs : List Gt) (x : Str) : List Str := abN gs (1 + (gs.flatMap Gt.ps).length) [x] [x]
def R_Circuit_above (K : PySem.W.Frag) (ds : List Dt) (r : Rs) : Prop := ∃ c ord x, ds = [circD K c ord, .str x] ∧ c.ok ∧ r = .o (.dk (kn (aboveL c.gs x)))
theorem l_Circuit_above (K : PySem.W.Frag) (ds : List Dt) (r : Rs) (h : R_Circuit_above K ds r) : ds.length = 2 := by
  obtain ⟨_, _, _, rfl, _⟩ := h
  rfl
def cnt (U f : List Str) : Nat := (U.filter fun u => !decide (u ∈ f)).length
theorem cnt_le (U f : List Str) : cnt U f ≤ U.length := List.length_filter_le _ _
theorem cnt_add {U f : List Str} {p : Str} (h1 : p ∈ U) (h2 : ¬ p ∈ f) : cnt U (f ++ [p]) + 1 ≤ cnt U f := by
  unfold cnt
  have e : (U.filter fun u => !decide (u ∈ f ++ [p])) = (U.filter fun u => !decide (u ∈ f)).filter fun u => !decide (u = p) := by
    rw [List.filter_filter]
    congr 1
    funext u
    simp [Bool.and_comm]
  rw [e]
  exact List.length_filter_lt_length_iff_exists.mpr ⟨p, by simp [h1, h2], by simp⟩
theorem gval (gs : List Gt) (x : Str) : (valD (gmap gs) (.inr x)).getD (.tup [.str "", .str "low", .tup []]) = ((gs.find? fun g => decide (g.l = x)).getD ⟨"", "low", []⟩).d := by
  unfold valD gmap
  induction gs with
  | nil => rfl
  | cons g gs ih =>
    rw [List.map_cons, List.find?_cons, List.find?_cons]
    by_cases e : g.l = x
    · subst e
      simp
    · have h1 : decide ((Sum.inr g.l : Key) = Sum.inr x) = false := decide_eq_false fun h => e (Sum.inr.inj h)
      simp only [h1, decide_eq_false e]
      exact ih
theorem pins_mem {gs : List Gt} {x p : Str} (h : p ∈ pinsOf gs x) : p ∈ gs.flatMap Gt.ps := by
  unfold pinsOf at h
  cases e : gs.find? fun g => decide (g.l = x) with
  | none => rw [e] at h; cases h
  | some g =>
    rw [e] at h
    exact List.mem_flatMap.mpr ⟨g, List.mem_of_find?_eq_some e, h⟩
theorem pins_get {gs : List Gt} {x : Str} : ((gs.find? fun g => decide (g.l = x)).getD ⟨"", "low", []⟩).ps = pinsOf gs x := by
  unfold pinsOf
  cases gs.find? fun g => decide (g.l = x) <;> rfl
theorem Cp.pins {c : Cp} (h : c.ok) : (c.gs.flatMap Gt.ps).length ≤ 4000 := by
  obtain ⟨_, _, h3, _, h5⟩ := h
  have : ∀ l : List Gt, (∀ g ∈ l, g.ps.length ≤ 4) → (l.flatMap Gt.ps).length ≤ 4 * l.length := by
    intro l
    induction l with
    | nil => intro _; simp
    | cons g l ih =>
      intro h
      have h1 := ih fun x hx => h x (by simp [hx])
      have h2 := h g (by simp)
      simp only [List.flatMap_cons, List.length_append, List.length_cons]
      omega
  have := this c.gs h5
  omega
def wlen3 (e : En) : Nat := match (e[3]? : Option Sl) with
  | some (Sl.ow _ (Ow.lst l)) => l.length
  | _ => 0
def flen2 (U : List Str) (e : En) : Nat := match (e[2]? : Option Sl) with
  | some (Sl.ow _ (Ow.dic ks _)) => (U.filter fun u => !ks.any fun k => decide (k = (.inr u : Key))).length
  | _ => 0
theorem flen_kn (U f : List Str) : (U.filter fun u => !((kn f).map Prod.fst).any fun k => decide (k = (.inr u : Key))).length = cnt U f := by
  unfold cnt kn
  congr 2
  funext u
  congr 1
  induction f with
  | nil => simp
  | cons a f ih =>
    rw [List.map_cons, List.map_cons, List.any_cons, ih]
    have : decide ((Sum.inr a : Key) = Sum.inr u) = decide (u = a) := decide_eq_decide.mpr ⟨fun h => (Sum.inr.inj h).symm, fun h => by rw [h]⟩
    simp only [this]
    simp
set_option maxHeartbeats 2000000
abbrev N_Circuit_above : List Str := ["self", "line", "found", "waiting", "gate", "pin"]
theorem sc_Circuit_above : FnScope N_Circuit_above ["self", "line"] (defScope s_Circuit_above) := ⟨rfl, rfl, rfl, by decide +kernel, rfl, by decide +kernel, by decide +kernel⟩
theorem k_Circuit_above (T : Txt K mg) (D : Dm K (He.ga K "Circuit") "above" "Circuit.above" ["self", "line"] s_Circuit_above)  : Mx P w K mg base 1 (He.ga K "Circuit") "above" ["self", "line"] (spR P w K (R_Circuit_above K)) := by
  refine Mx.of D sc_Circuit_above (l_Circuit_above K) fun f cdv A outer s H E hr => ?_
  have hu : (A.deeper (envOfC "Circuit.above" (defScope s_Circuit_above) s.heap.objs.size f cdv)).units + 64 < cLine := hr.units
  have hu1 : (A.deeper (envOfC "Circuit.above" (defScope s_Circuit_above) s.heap.objs.size f cdv)).units + 1 < cLine := Nat.lt_of_le_of_lt (Nat.add_le_add_left (by decide) _) hu
  refine ⟨_, (pss_cons (pset (i := 2) sc_Circuit_above.nd (pe_disp (pps_cons (pv 1) pe_bl pps_nil) (by rfl) (by rfl) (fun z => by cases z) (by decide)))
      (pss_cons (pset (i := 3) sc_Circuit_above.nd (pe_lst (pa_cons (pv 1) pa_nil)))
      (pss_cons (ps_while PassesOwn.never (pt_truth (pv 3) (fun _ => rfl))
      (pss_cons (pset (i := 4) sc_Circuit_above.nd (pe_dget2 hu1 (pe_fld (pv 0) rfl) (pe_bm0 PySem.F.plainAttrs_list PySem.F.slot_list_pop PySem.F.type_list_pop mt_pop (pv 3)) (pe_tup (pa_cons pe_str (pa_cons pe_str (pa_cons (pe_tup pa_nil) pa_nil)))) ⟨rfl, rfl, rfl, rfl⟩))
      (pss_one (ps_for PassesOwn.never rfl (pi_tup (pe_ix ix_tup (pv 4) pe_int (fun _ _ => rfl))) (pgn (i := 5) sc_Circuit_above.nd)
      (pss_one (ps_if (pt_cmp (pc_dnotin hu1 (pv 5) (pv 2))) (pss_cons (ps_dput hu1 (pv 2) (pv 5) pe_bl rfl)
      (pss_one (ps_expr (pe_bm PySem.F.plainAttrs_list PySem.F.slot_list_append PySem.F.type_list_append mt_append (pv 3) (pa_cons (pv 5) pa_nil))))) pss_nil))))))
      (pss_one (ps_ret (pv 2)))))), ?_⟩
  rintro ds r ⟨c, ord, x, rfl, hok, rfl⟩
  show Se P w K _ [.d (circD K c ord), .d (.str x), .u, .u, .u, .u] _
  have hpins := Cp.pins hok
  generalize hU : c.gs.flatMap Gt.ps = U at hpins
  refine se_seq (env1 := [.d (circD K c ord), .d (.str x), .ow none (.dk (kn [x])), .u, .u, .u]) (se_own (eo_p (po_disp (ts := [(tVar 1, tC (.bl true))]) (kvs := [(.inr x, .bl true)]) ⟨ep_var, ep_bl, trivial⟩ (by simp)))) ?_
  refine se_seq (se_own (en_p (np_lst (ap_cons ep_var ap_nil)))) ?_
  let Wn : List Str → List Str → En := fun f ws => [.d (circD K c ord), .d (.str x), .ow none (.dk (kn f)), .ow none (.lst (ws.map .str)), .x, .x]
  refine se_seq (env1 := Wn (aboveL c.gs x) []) (se_pre (env1 := Wn [x] [x]) (Le.s (Le.s (Le.s (Le.s (Le.x (Le.x Le.nil)))))) ?_) (se_roV rfl)
  refine se_while (fun e => ∃ f ws n, e = Wn f ws ∧ f.length + cnt U f ≤ 1 + U.length ∧ ws.length ≤ f.length ∧ cnt U f + ws.length ≤ n ∧ abN c.gs n f ws = aboveL c.gs x) (fun e => flen2 U e + wlen3 e) ?_ ⟨_, _, 1 + U.length, rfl, by have := cnt_le U [x]; simp; omega, by simp, by have := cnt_le U [x]; simp; omega, by rw [← hU]; rfl⟩
  rintro e ⟨f, ws, n, rfl, i1, i2, i3, i4⟩
  refine ⟨_, te_p tp_truO, fun hb => .inl ?_, fun hb => ?_⟩
  · have hne : ws ≠ [] := by rintro rfl; cases hb
    obtain ⟨ws', y, rfl⟩ : ∃ l y, ws = l ++ [y] := ⟨ws.dropLast, ws.getLast hne, (List.dropLast_concat_getLast hne).symm⟩
    obtain ⟨n, rfl⟩ : ∃ m, n = m + 1 := by
      cases n with
      | zero => simp at i3
      | succ n => exact ⟨n, rfl⟩
    have i4 : abN c.gs n ((pinsOf c.gs y).foldl abStep (f, ws')).1 ((pinsOf c.gs y).foldl abStep (f, ws')).2 = aboveL c.gs x := by
      rw [← i4]
      simp [abN]
    let s := (pinsOf c.gs y).foldl abStep (f, ws')
    have fin : s.1.length + cnt U s.1 ≤ 1 + U.length ∧ s.2.length ≤ s.1.length ∧ cnt U s.1 + s.2.length ≤ cnt U f + ws'.length := by
      have key : ∀ (l : List Str) (s : List Str × List Str), (∀ p ∈ l, p ∈ U) → s.1.length + cnt U s.1 ≤ 1 + U.length → s.2.length ≤ s.1.length → (l.foldl abStep s).1.length + cnt U (l.foldl abStep s).1 ≤ 1 + U.length ∧ (l.foldl abStep s).2.length ≤ (l.foldl abStep s).1.length ∧ cnt U (l.foldl abStep s).1 + (l.foldl abStep s).2.length ≤ cnt U s.1 + s.2.length := by
        intro l
        induction l with
        | nil => intro s _ h1 h2; exact ⟨h1, h2, Nat.le_refl _⟩
        | cons p l ih =>
          intro s hp h1 h2
          rw [List.foldl_cons]
          by_cases e : p ∈ s.1
          · have e2 : abStep s p = s := if_pos e
            rw [e2]
            exact ih s (fun q hq => hp q (by simp [hq])) h1 h2
          · have e2 : abStep s p = (s.1 ++ [p], s.2 ++ [p]) := if_neg e
            rw [e2]
            have hc := cnt_add (hp p (by simp)) e
            obtain ⟨g1, g2, g3⟩ := ih (s.1 ++ [p], s.2 ++ [p]) (fun q hq => hp q (by simp [hq])) (by simp; omega) (by simp; omega)
            refine ⟨g1, g2, ?_⟩
            simp at g3
            omega
      refine key _ _ (fun p hp => by rw [← hU]; exact pins_mem hp) i1 ?_
      simp at i2
      show ws'.length ≤ f.length
      omega
    refine ⟨Wn s.1 s.2, ⟨_, _, n, rfl, fin.1, fin.2.1, by simp at i3; omega, i4⟩, ?_, ?_⟩
    · have e1 : flen2 U (Wn s.1 s.2) = cnt U s.1 := flen_kn U s.1
      have e2 : flen2 U (Wn f (ws' ++ [y])) = cnt U f := flen_kn U f
      have e3 : wlen3 (Wn s.1 s.2) = s.2.length := by show (s.2.map Dt.str).length = _; simp
      have e4 : wlen3 (Wn f (ws' ++ [y])) = ws'.length + 1 := by show ((ws' ++ [y]).map Dt.str).length = _; simp
      show flen2 U (Wn s.1 s.2) + wlen3 (Wn s.1 s.2) < flen2 U (Wn f (ws' ++ [y])) + wlen3 (Wn f (ws' ++ [y]))
      omega
    · have hcE : ∀ {en : En}, en[0]? = some (.d (circD K c ord)) → Ep P w K (tFld K (tVar 0) "gate_of") en (dk (gmap c.gs)) := fun h => ep_fld (fs := CF) (ds := circE c ord) T.k_Circuit T.na (ep_var h) rfl
      have hw : (Wn f (ws' ++ [y]))[3]? = some (.ow none (.lst (ws'.map .str ++ [.str y]))) := by
        show some (Sl.ow none (Ow.lst ((ws' ++ [y]).map Dt.str))) = _
        simp
      refine se_nc (se_seq (env1 := [.d (circD K c ord), .d (.str x), .ow none (.dk (kn f)), .ow none (.lst (ws'.map .str)), .d ((c.gs.find? fun g => decide (g.l = y)).getD ⟨"", "low", []⟩).d, .x]) (se_is (se_asg (ee_dget2 (k := .inr y) (ee_popO hw) (ep_tup (ap_cons ep_str (ap_cons ep_str (ap_cons (ep_tup ap_nil) ap_nil)))) (hcE rfl))) ?_) ?_)
      · rw [gval]
        rfl
      · generalize hg : (c.gs.find? fun g => decide (g.l = y)).getD ⟨"", "low", []⟩ = g
        have hps : g.ps = pinsOf c.gs y := by rw [← hg, pins_get]
        let En1 : List Str × List Str → En := fun s => [.d (circD K c ord), .d (.str x), .ow none (.dk (kn s.1)), .ow none (.lst (s.2.map .str)), .d g.d, .x]
        refine se_le (env1 := En1 s) (se_is (se_fold g.ps Dt.str rfl (ip_tup (ep_gate rfl).2.2) En1 abStep (fun s pre => s.1.length + cnt U s.1 ≤ 1 + U.length ∧ s.2.length ≤ s.1.length) (f, ws') (Le.s (Le.s (Le.s (Le.s (Le.s (Le.x Le.nil)))))) ⟨i1, by simp at i2; show ws'.length ≤ f.length; omega⟩ ?_) (by rw [hps])) (Le.s (Le.s (Le.s (Le.s (Le.x (Le.x Le.nil))))))
        rintro s pre p post hx ⟨p1, p2⟩
        have hpU : p ∈ U := by
          rw [← hU]
          refine pins_mem (x := y) ?_
          rw [← hps, hx]
          simp
        refine ⟨?_, _, ge_name, ?_⟩
        · by_cases e : p ∈ s.1
          · have e2 : abStep s p = s := if_pos e
            rw [e2]
            exact ⟨p1, p2⟩
          · have e2 : abStep s p = (s.1 ++ [p], s.2 ++ [p]) := if_neg e
            rw [e2]
            have hc := cnt_add hpU e
            exact ⟨by simp; omega, by simp; omega⟩
        · refine se_nc (se_le (env1 := (En1 (abStep s p)).set 5 (.d (.str p))) (se_if (b := !decide (p ∈ s.1)) (env1 := (En1 s).set 5 (.d (.str p))) (te_p (tp_is (tp_B (ep_dni (kvs := kn s.1) (k := .inr p) (edk_o rfl) ep_var)) (by rw [val_kn]))) (fun hb => ?_) (fun hb => ?_)) (Le.s (Le.s (Le.s (Le.s (Le.s (Le.x Le.nil)))))))
          · have e : ¬ p ∈ s.1 := by simpa using hb
            have e2 : abStep s p = (s.1 ++ [p], s.2 ++ [p]) := if_neg e
            rw [e2]
            have l1 : (kn s.1).length < 100000 := by rw [kn_len]; omega
            refine se_is (se_seq (se_dput (kvs := kn s.1) (k := .inr p) (d := .bl true) (ee_p ep_bl) ep_var rfl l1) (se_app (xs := s.2.map .str) rfl (ee_p ep_var) rfl (by simp; omega))) ?_
            rw [put_kn, show ins s.1 p = s.1 ++ [p] from if_neg e]
            simp [En1]
          · have e : p ∈ s.1 := by simpa using hb
            have e2 : abStep s p = s := if_pos e
            rw [e2]
            exact se_next
  · have hws : ws = [] := by
      cases ws with
      | nil => rfl
      | cons g r => cases hb
    subst hws
    have : aboveL c.gs x = f := by
      rw [← i4]
      cases n <;> rfl
    rw [this]
end
end CC
set_option maxHeartbeats 400000
namespace CC
open PySem PySem.Spec PyProof.Rows L2 Qw
open Evl hiding ea_cons
open Pw (Dt Rp RpL Wk R2d R1d RLd RLn Kq KqL truD flatD fl py pyL rangeD charsD spX2 Xm Xm0 tyD isI isB isS isTp isL rl_isInt rl_isBool rl_isStr rl_isTup rl_isList rl_int rl_max2 rl_min2 rl_len rl_lenT rl_tup rl_tupT rl_lenS rl_all rl_any rn_list rn_listT r2_I0 r2_B0 r2_eqI r2_neI r2_eqS r2_neS r2_eq r2_ne r2_I r2_inS r2_niS r2_in r2_inT r2_ixL r2_ixT r2_ixS r2_addS r2_eqD r2_neD r2_ixM r1_U ixN_at itemD cr_int cr_min2 cr_max2 cr_list cr_tuple cr_len pe_globI pe_globS pe_globR pe_tyname rTupS rInt1 rMin2)
local macro_rules | `(tactic| walk_at "side") => `(tactic| first
  | decide | omega | assumption | (show (0 : Int) < _; omega) | exact (show CDiv _ _ from ⟨by omega, by omega⟩) | exact (show CMul _ _ from Or.inr ⟨by omega, by omega⟩) | exact (show CMul _ _ from Or.inl ⟨by omega, by omega⟩) | exact (show CPow _ _ from ⟨by decide, by decide, by decide⟩))
local macro_rules | `(tactic| walk_at "op") => `(tactic| first
  | exact r2_I0 | exact r2_B0 | exact r2_eqI | exact r2_neI | exact r2_eqS | exact r2_neS
  | exact r2_eq rfl rfl rfl | exact r2_ne rfl rfl rfl
  | (refine' r2_I ?_; walk_at "side") | exact r2_inS | exact r2_niS)
local macro_rules | `(tactic| walk_at "rl") => `(tactic| first
  | exact rl_int | exact rl_max2 | exact rl_min2 | exact rl_len | exact rl_lenT | exact rl_isInt (by first | rfl | assumption) | exact rl_isBool (by first | rfl | assumption) | exact rl_isStr (by first | rfl | assumption) | exact rl_isTup (by first | rfl | assumption) | exact rl_isList (by first | rfl | assumption) | exact rl_tup | exact rl_tupT | (refine' rl_lenS ?_; walk_at "side"))
local macro_rules | `(tactic| walk_at "ap") => `(tactic| first
  | exact ap_nil
  | (refine' ap_cons ?eah ?eat; (case eah => walk_at "ep"); (case eat => walk_at "ap")))
local macro_rules | `(tactic| walk_at "ep") => `(tactic| first
  | exact ep_int | exact ep_bl | exact ep_str | exact ep_non | exact ep_ty | exact ep_var
  | (refine' ep_op ?eva ?evb ?evc; (case eva => walk_at "ep"); (case evb => walk_at "ep"); (case evc => walk_at "op"))
  | (refine' ep_cb ?evd ?eve; (case evd => walk_at "ap"); (case eve => walk_at "rl"))
  | (refine' ep_un ?evf r1_U; (case evf => walk_at "ep"))
  | (refine' ep_tup ?evg ?evi; (case evg => walk_at "ap"); (case evi => exact Nat.le_of_ble_eq_true rfl))
  | (refine' ep_lst ?evh ?evj; (case evh => walk_at "ap"); (case evj => exact Nat.le_of_ble_eq_true rfl))
  | assumption)
local macro_rules | `(tactic| walk_at "ee") => `(tactic| (refine' ee_p ?eep; (case eep => walk_at "ep")))
local macro_rules | `(tactic| walk_at "te") => `(tactic| (refine' te_p ?tep; (case tep => walk_at "tp")))
local macro_rules | `(tactic| walk_at "tp") => `(tactic| first
  | (refine' tp_test ?tea; (case tea => walk_at "ep"))
  | (refine' tp_B ?teb; (case teb => walk_at "ep"))
  | (refine' tp_not ?tec; (case tec => walk_at "tp"))
  | (refine' tp_or ?ted ?tee; (case ted => walk_at "tp"); (case tee => intro _; walk_at "tp"))
  | (refine' tp_and ?tef ?teg; (case tef => walk_at "tp"); (case teg => intro _; walk_at "tp"))
  | assumption)
section
variable {P : Program} {w : World} {K : PySem.W.Frag} {mg : Str → Option Value} {base : Heap}
def cellI (xs : List Int) (k : Nat) : Int := xs.getD k 0
def R_law_cell (ds : List Dt) (r : Rs) : Prop := ∃ (xs : List Int) (k : Nat), ds = [.lst (xs.map .int), .int k] ∧ r = .d (.int (cellI xs k))
theorem l_law_cell (ds : List Dt) (r : Rs) (h : R_law_cell ds r) : ds.length = 2 := by
  obtain ⟨_, _, rfl, _⟩ := h
  rfl
abbrev N_law_cell : List Str := ["script", "k"]
theorem sc_law_cell : FnScope N_law_cell ["script", "k"] (defScope s_law_cell) := ⟨rfl, rfl, rfl, by decide +kernel, rfl, by decide +kernel, by decide +kernel⟩
theorem k_law_cell (T : Txt K mg) (D : Dx K mg "_law_cell" ["script", "k"] s_law_cell)  : Fx P w K mg base 1 "_law_cell" ["script", "k"] (spR P w K R_law_cell) := by
  refine Fx.of D sc_law_cell (l_law_cell) fun f cdv A outer s H E hr => ?_
  refine ⟨_, (pss_cons (ps_if (pt_cmpR op_lt (pv 1) (pe_callB cr_len (by rfl) T.f_len PySem.boot_len (pa_cons (pv 0) pa_nil)) (nomark _)) (pss_one (ps_ret (pe_callTy cr_int (by rfl) T.f_int (by decide +kernel) (pa_cons (pe_ix ix_list (pv 0) (pv 1) (fun _ _ => rfl)) pa_nil)))) pss_nil)
      (pss_one (ps_ret pe_int))), ?_⟩
  rintro ds r ⟨xs, k, rfl, rfl⟩
  left
  show Se P w K _ [.d (.lst (xs.map .int)), .d (.int k)] _
  refine se_when (b := decide ((k : Int) < ((xs.map Dt.int).length : Int))) (te_p (by walk_at "tp")) (fun hb => ?_) (fun hb => ?_)
  · have hb := of_decide_eq_true hb
    have hb : k < xs.length := by rw [List.length_map] at hb; omega
    refine se_seqF (se_ret (ee_p (ep_cb (ap_cons (ep_op ep_var ep_var (r2_ixL (z := .int (cellI xs k)) (ixN_at (by omega) (by rw [List.length_map]; omega)) ?_)) ap_nil) rl_int)))
    rw [Int.toNat_natCast, List.getElem?_map, itemD 0 hb]
    rfl
  · have hb := of_decide_eq_false hb
    have e : cellI xs k = 0 := by
      unfold cellI
      rw [List.getD_eq_getElem?_getD, List.getElem?_eq_none (by rw [List.length_map] at hb; omega)]
      rfl
    rw [e]
    exact se_ret (ee_p ep_int)
end
section
variable {P : Program} {w : World} {K : PySem.W.Frag} {mg : Str → Option Value} {base : Heap}
def rich (c k : Int) : Int := if (10 : Int) ^ (18 : Int).toNat ≤ c then c else ((c * 48271 + k * 69621 + 11) % 2147483647) * 2147483629 + (((c * 48271 + k * 69621 + 11) % 2147483647) * 16807 + c) % 2147483629
theorem rich_nonneg (c k : Int) : 0 ≤ rich c k := by
  unfold rich
  split
  · rename_i h
    have : (0 : Int) ≤ (10 : Int) ^ (18 : Int).toNat := by decide
    omega
  · omega
def R_law_rich (ds : List Dt) (r : Rs) : Prop := ∃ c k : Int, ds = [.int c, .int k] ∧ r = .d (.int (rich c k))
theorem l_law_rich (ds : List Dt) (r : Rs) (h : R_law_rich ds r) : ds.length = 2 := by
  obtain ⟨_, _, rfl, _⟩ := h
  rfl
abbrev N_law_rich : List Str := ["cell", "k", "mixed"]
theorem sc_law_rich : FnScope N_law_rich ["cell", "k"] (defScope s_law_rich) := ⟨rfl, rfl, rfl, by decide +kernel, rfl, by decide +kernel, by decide +kernel⟩
theorem k_law_rich (T : Txt K mg) (D : Dx K mg "_law_rich" ["cell", "k"] s_law_rich)  : Fx P w K mg base 1 "_law_rich" ["cell", "k"] (spR P w K R_law_rich) := by
  refine Fx.of D sc_law_rich (l_law_rich) fun f cdv A outer s H E hr => ?_
  refine ⟨_, (pss_cons (ps_if (pt_cmpR op_ge (pv 0) (pe_op op_pow pe_int pe_int) (nomark _)) (pss_one (ps_ret (pe_callTy cr_int (by rfl) T.f_int (by decide +kernel) (pa_cons (pv 0) pa_nil)))) pss_nil)
      (pss_cons (pset (i := 2) sc_law_rich.nd (pe_op op_mod (pe_callTy cr_int (by rfl) T.f_int (by decide +kernel) (pa_cons (pe_op op_add (pe_op op_add (pe_op op_mul (pv 0) pe_int) (pe_op op_mul (pv 1) pe_int)) pe_int) pa_nil)) pe_int))
      (pss_one (ps_ret (pe_op op_add (pe_op op_mul (pv 2) pe_int) (pe_op op_mod (pe_callTy cr_int (by rfl) T.f_int (by decide +kernel) (pa_cons (pe_op op_add (pe_op op_mul (pv 2) pe_int) (pv 0)) pa_nil)) pe_int)))))), ?_⟩
  rintro ds r ⟨c, k, rfl, rfl⟩
  left
  show Se P w K _ [.d (.int c), .d (.int k), .u] _
  refine se_when (b := decide ((10 : Int) ^ (18 : Int).toNat ≤ c)) (te_p (tp_test (ep_op ep_var (by walk_at "ep") r2_B0))) (fun hb => ?_) (fun hb => ?_)
  · refine se_seqF (se_ret (ee_p (ep_is (by walk_at "ep") ?_)))
    unfold rich
    rw [if_pos (of_decide_eq_true hb)]
  · refine se_seq (se_asg (ee_p (by walk_at "ep"))) ?_
    refine se_ret (ee_p (ep_is (by walk_at "ep") ?_))
    unfold rich
    rw [if_neg (of_decide_eq_false hb)]
end
section
variable {P : Program} {w : World} {K : PySem.W.Frag} {mg : Str → Option Value} {base : Heap}
def K13 : List Str := ["and", "or", "nand", "nor", "xor", "xnor", "not", "buf", "and", "or", "nand", "low", "high"]
def kindL (c : Int) : Str := K13.getD (c % 13).toNat ""
def cntL (c : Int) : Nat := if kindL c ∈ (["not", "buf"] : List Str) then 1 else ([2, 2, 3, 1, 2, 4] : List Nat).getD (c / 13 % 6).toNat 0
def pick (known : List Str) (r : Int) : Str := known.getD (r % (known.length : Int)).toNat ""
def pinI (known : List Str) (c : Int) (i : Nat) : Str := pick known (c / (78 + 31 * (i : Int)))
def gateL (c : Int) (known : List Str) (name : Str) : Gt := if kindL c ∈ (["low", "high"] : List Str) then ⟨name, kindL c, []⟩ else ⟨name, kindL c, (List.range (cntL c)).map (pinI known c)⟩
theorem pick_at {known : List Str} (h : known ≠ []) (r : Int) : ixN (known.map Dt.str).length (r % ((known.map Dt.str).length : Int)) = some (r % (known.length : Int)).toNat ∧ (known.map Dt.str)[(r % (known.length : Int)).toNat]? = some (.str (pick known r)) := by
  have hl : 0 < known.length := List.length_pos_iff.mpr h
  have h1 := Int.emod_nonneg r (show (known.length : Int) ≠ 0 by omega)
  have h2 := Int.emod_lt_of_pos r (show (0 : Int) < known.length by omega)
  refine ⟨?_, ?_⟩
  · rw [List.length_map]
    exact ixN_at h1 h2
  · rw [List.getElem?_map, itemD (l := known) "" (by omega)]
    rfl
theorem lit_at {d : Dt} (l : List Dt) (r : Int) (n : Nat) (hn : l.length = n + 1) (e : l.getD (r % ((n : Int) + 1)).toNat d = z) : ixN l.length (r % ((n : Int) + 1)) = some (r % ((n : Int) + 1)).toNat ∧ l[(r % ((n : Int) + 1)).toNat]? = some z := by
  have h1 := Int.emod_nonneg r (show (n : Int) + 1 ≠ 0 by omega)
  have h2 := Int.emod_lt_of_pos r (show (0 : Int) < (n : Int) + 1 by omega)
  refine ⟨ixN_at h1 (by rw [hn]; omega), ?_⟩
  rw [itemD d (by omega), e]
theorem getD_mapf {α : Type} (f : α → Dt) (l : List α) (n : Nat) (a : α) : (l.map f).getD n (f a) = f (l.getD n a) := by
  rw [List.getD_eq_getElem?_getD, List.getD_eq_getElem?_getD, List.getElem?_map]
  cases l[n]? <;> rfl
theorem getD_map_str (l : List Str) (n : Nat) : (l.map Dt.str).getD n (.str "") = .str (l.getD n "") := by
  rw [List.getD_eq_getElem?_getD, List.getD_eq_getElem?_getD, List.getElem?_map]
  cases l[n]? <;> rfl
theorem in_strs (k : Str) (xs : List Str) : R2d K (rIn K false) (.str k) (.lst (xs.map .str)) (.bl (decide (k ∈ xs))) := by
  have h := r2_in (K := K) (neg := false) (d := .str k) (ds := xs.map Dt.str) rfl (flat_strsD xs) rfl (flat_strsV xs)
  rw [fl_strs] at h
  have e : inV (Pw.fl (.str k)) (xs.map V.str) = decide (k ∈ xs) := inV_strs k xs
  rw [e] at h
  exact h
def R_law_gate (ds : List Dt) (r : Rs) : Prop := ∃ (c : Int) (known : List Str) (name : Str), ds = [.int c, .lst (known.map .str), .str name] ∧ 0 ≤ c ∧ known ≠ [] ∧ known.length ≤ 1000 ∧ r = .d (gateL c known name).d
theorem l_law_gate (ds : List Dt) (r : Rs) (h : R_law_gate ds r) : ds.length = 3 := by
  obtain ⟨_, _, _, rfl, _⟩ := h
  rfl
theorem cntL_le (c : Int) : cntL c ≤ 4 := by
  unfold cntL
  split
  · omega
  · have : ∀ n : Nat, ([2, 2, 3, 1, 2, 4] : List Nat).getD n 0 ≤ 4 := by
      intro n
      match n with
      | 0 => decide
      | 1 => decide
      | 2 => decide
      | 3 => decide
      | 4 => decide
      | 5 => decide
      | n + 6 => exact Nat.zero_le _
    exact this _
abbrev N_law_gate : List Str := ["rich", "known", "name", "kind", "count", "pins", "k"]
theorem sc_law_gate : FnScope N_law_gate ["rich", "known", "name"] (defScope s_law_gate) := ⟨rfl, rfl, rfl, by decide +kernel, rfl, by decide +kernel, by decide +kernel⟩
theorem k_law_gate (T : Txt K mg) (D : Dx K mg "_law_gate" ["rich", "known", "name"] s_law_gate)  : Fx P w K mg base 1 "_law_gate" ["rich", "known", "name"] (spR P w K R_law_gate) := by
  refine Fx.of D sc_law_gate (l_law_gate) fun f cdv A outer s H E hr => ?_
  refine ⟨_, (pss_cons (pset (i := 3) sc_law_gate.nd (pe_ix ix_list (pe_lst (pa_cons pe_str (pa_cons pe_str (pa_cons pe_str (pa_cons pe_str (pa_cons pe_str (pa_cons pe_str (pa_cons pe_str (pa_cons pe_str (pa_cons pe_str (pa_cons pe_str (pa_cons pe_str (pa_cons pe_str (pa_cons pe_str pa_nil)))))))))))))) (pe_op op_mod (pv 0) pe_int) (fun _ _ => rfl)))
      (pss_cons (ps_if (pt_cmpR op_in_seq (pv 3) (pe_lst (pa_cons pe_str (pa_cons pe_str pa_nil))) rfl) (pss_one (ps_ret (pe_tup (pa_cons (pv 2) (pa_cons (pv 3) (pa_cons (pe_tup pa_nil) pa_nil)))))) pss_nil)
      (pss_cons (pset (i := 4) sc_law_gate.nd (pe_ifExp (pt_cmpR op_in_seq (pv 3) (pe_lst (pa_cons pe_str (pa_cons pe_str pa_nil))) rfl) pe_int (pe_ix ix_list (pe_lst (pa_cons pe_int (pa_cons pe_int (pa_cons pe_int (pa_cons pe_int (pa_cons pe_int (pa_cons pe_int pa_nil))))))) (pe_op op_mod (pe_op op_fdiv (pv 0) pe_int) pe_int) (fun _ _ => rfl))))
      (pss_cons (pset (i := 5) sc_law_gate.nd (pe_lst pa_nil))
      (pss_cons (ps_for PassesOwn.never rfl (pi_range1 rfl T.f_range (pa_cons (pv 4) pa_nil)) (pgn (i := 6) sc_law_gate.nd)
      (pss_one (ps_expr (pe_bm PySem.F.plainAttrs_list PySem.F.slot_list_append PySem.F.type_list_append mt_append (pv 5) (pa_cons (pe_ix ix_list (pv 1) (pe_op op_mod (pe_op op_fdiv (pv 0) (pe_op op_add pe_int (pe_op op_mul pe_int (pv 6)))) (pe_callB cr_len (by rfl) T.f_len PySem.boot_len (pa_cons (pv 1) pa_nil))) (fun _ _ => rfl)) pa_nil)))))
      (pss_one (ps_ret (pe_tup (pa_cons (pv 2) (pa_cons (pv 3) (pa_cons (pe_callTy cr_tuple (by rfl) T.f_tuple (by decide +kernel) (pa_cons (pv 5) pa_nil)) pa_nil))))))))))), ?_⟩
  rintro ds r ⟨c, known, name, rfl, hc, hk, hz, rfl⟩
  left
  show Se P w K _ [.d (.int c), .d (.lst (known.map .str)), .d (.str name), .u, .u, .u, .u] _
  obtain ⟨k1, k2⟩ := lit_at (d := .str "") (z := .str (kindL c)) (K13.map Dt.str) c 12 rfl (getD_map_str K13 _)
  refine se_seq (se_asg (d := .str (kindL c)) (ee_p (ep_op (d := .lst (K13.map Dt.str)) (by walk_at "ep") (by walk_at "ep") (r2_ixL k1 k2)))) ?_
  refine se_when (b := decide (kindL c ∈ (["low", "high"] : List Str))) (te_p (tp_test (ep_op ep_var (by walk_at "ep") (in_strs (kindL c) ["low", "high"])))) (fun hb => ?_) (fun hb => ?_)
  · refine se_seqF (se_ret (ee_p (ep_is (by walk_at "ep") ?_)))
    unfold gateL
    rw [if_pos (of_decide_eq_true hb)]
    rfl
  · have hb := of_decide_eq_false hb
    have hg : gateL c known name = ⟨name, kindL c, (List.range (cntL c)).map (pinI known c)⟩ := if_neg hb
    rw [hg]
    refine se_seq (se_asg (d := .int (cntL c)) (ee_p (ep_if (b := decide (kindL c ∈ (["not", "buf"] : List Str))) (tp_test (ep_op ep_var (by walk_at "ep") (in_strs (kindL c) ["not", "buf"]))) (fun h => ep_is ep_int ?_) (fun h => ?_)))) ?_
    · unfold cntL
      rw [if_pos (of_decide_eq_true h)]
      rfl
    · have e : cntL c = ([2, 2, 3, 1, 2, 4] : List Nat).getD (c / 13 % 6).toNat 0 := if_neg (of_decide_eq_false h)
      obtain ⟨j1, j2⟩ := lit_at (d := .int ((0 : Nat) : Int)) (z := .int (cntL c)) (([2, 2, 3, 1, 2, 4] : List Nat).map fun n : Nat => Dt.int (n : Int)) (c / 13) 5 rfl (by
        rw [e]
        exact getD_mapf (fun n : Nat => Dt.int (n : Int)) [2, 2, 3, 1, 2, 4] _ 0)
      exact ep_op (d := .lst (([2, 2, 3, 1, 2, 4] : List Nat).map fun n : Nat => Dt.int (n : Int))) (by walk_at "ep") (by walk_at "ep") (r2_ixL j1 j2)
    refine se_seq (se_own (en_p (np_lst ap_nil))) ?_
    let En1 : List Str → En := fun ps => [.d (.int c), .d (.lst (known.map .str)), .d (.str name), .d (.str (kindL c)), .d (.int (cntL c)), .ow none (.lst (ps.map .str)), .x]
    refine se_seq (env1 := En1 ((List.range (cntL c)).map (pinI known c))) (se_is (se_rng (cntL c) (ap_cons ep_var ap_nil) (by have := cntL_le c; omega) En1 (fun s i => s ++ [pinI known c i]) (fun s i => s.length = i) [] (Le.s (Le.s (Le.s (Le.s (Le.s (Le.s (Le.x Le.nil))))))) rfl ?_) ?_) ?_
    · intro s i hi hs
      refine ⟨by simp [hs], _, ge_name, ?_⟩
      have hcl := cntL_le c
      obtain ⟨p1, p2⟩ := pick_at hk (c / (78 + 31 * (i : Int)))
      refine se_nc (se_le (se_is (se_app (xs := s.map Dt.str) (d := .str (pinI known c i)) rfl (ee_p (ep_op ep_var (ep_op (ep_op ep_var (by walk_at "ep") (r2_I (show CDiv _ _ from ⟨?_, ?_⟩))) (ep_cb (ap_cons ep_var ap_nil) rl_len) (r2_I ?_)) (r2_ixL p1 p2))) rfl (by rw [List.length_map]; omega)) rfl) ?_)
      · omega
      · omega
      · have hl : 0 < known.length := List.length_pos_iff.mpr hk
        show (0 : Int) < ((known.map Dt.str).length : Int)
        rw [List.length_map]
        omega
      · have e : s.map Dt.str ++ [Dt.str (pinI known c i)] = (s ++ [pinI known c i]).map Dt.str := by simp
        rw [e]
        exact Le.s (Le.s (Le.s (Le.s (Le.s (Le.s (Le.x Le.nil))))))
    · have key : ∀ (l : List Nat) (s : List Str), l.foldl (fun s i => s ++ [pinI known c i]) s = s ++ l.map (pinI known c) := by
        intro l
        induction l with
        | nil => simp
        | cons a l ih => intro s; rw [List.foldl_cons, ih]; simp
      rw [key]
      rfl
    · refine se_freeze (i := 5) (t' := none) rfl rfl ?_
      exact se_ret (ee_p (ep_is (by walk_at "ep") rfl))
end
end CC
set_option maxHeartbeats 400000
namespace CC
open PySem PySem.Spec PyProof.Rows L2 Qw
open Evl hiding ea_cons
open Pw (Dt Rp RpL Wk R2d R1d RLd RLn Kq KqL truD flatD fl py pyL rangeD charsD spX2 Xm Xm0 tyD isI isB isS isTp isL rl_isInt rl_isBool rl_isStr rl_isTup rl_isList rl_int rl_max2 rl_min2 rl_len rl_lenT rl_tup rl_tupT rl_lenS rl_all rl_any rn_list rn_listT r2_I0 r2_B0 r2_eqI r2_neI r2_eqS r2_neS r2_eq r2_ne r2_I r2_inS r2_niS r2_in r2_inT r2_ixL r2_ixT r2_ixS r2_addS r2_eqD r2_neD r2_ixM r1_U ixN_at itemD cr_int cr_min2 cr_max2 cr_list cr_tuple cr_len pe_globI pe_globS pe_globR pe_tyname rTupS rInt1 rMin2)
local macro_rules | `(tactic| walk_at "side") => `(tactic| first
  | decide | omega | assumption | (show (0 : Int) < _; omega) | exact (show CDiv _ _ from ⟨by omega, by omega⟩) | exact (show CMul _ _ from Or.inr ⟨by omega, by omega⟩) | exact (show CMul _ _ from Or.inl ⟨by omega, by omega⟩) | exact (show CPow _ _ from ⟨by decide, by decide, by decide⟩))
local macro_rules | `(tactic| walk_at "op") => `(tactic| first
  | exact r2_I0 | exact r2_B0 | exact r2_eqI | exact r2_neI | exact r2_eqS | exact r2_neS
  | exact r2_eq rfl rfl rfl | exact r2_ne rfl rfl rfl
  | (refine' r2_I ?_; walk_at "side") | exact r2_inS | exact r2_niS)
local macro_rules | `(tactic| walk_at "rl") => `(tactic| first
  | exact rl_int | exact rl_max2 | exact rl_min2 | exact rl_len | exact rl_lenT | exact rl_isInt (by first | rfl | assumption) | exact rl_isBool (by first | rfl | assumption) | exact rl_isStr (by first | rfl | assumption) | exact rl_isTup (by first | rfl | assumption) | exact rl_isList (by first | rfl | assumption) | exact rl_tup | exact rl_tupT | (refine' rl_lenS ?_; walk_at "side"))
local macro_rules | `(tactic| walk_at "ap") => `(tactic| first
  | exact ap_nil
  | (refine' ap_cons ?eah ?eat; (case eah => walk_at "ep"); (case eat => walk_at "ap")))
local macro_rules | `(tactic| walk_at "ep") => `(tactic| first
  | exact ep_int | exact ep_bl | exact ep_str | exact ep_non | exact ep_ty | exact ep_var
  | (refine' ep_op ?eva ?evb ?evc; (case eva => walk_at "ep"); (case evb => walk_at "ep"); (case evc => walk_at "op"))
  | (refine' ep_cb ?evd ?eve; (case evd => walk_at "ap"); (case eve => walk_at "rl"))
  | (refine' ep_un ?evf r1_U; (case evf => walk_at "ep"))
  | (refine' ep_tup ?evg ?evi; (case evg => walk_at "ap"); (case evi => exact Nat.le_of_ble_eq_true rfl))
  | (refine' ep_lst ?evh ?evj; (case evh => walk_at "ap"); (case evj => exact Nat.le_of_ble_eq_true rfl))
  | assumption)
local macro_rules | `(tactic| walk_at "ee") => `(tactic| (refine' ee_p ?eep; (case eep => walk_at "ep")))
local macro_rules | `(tactic| walk_at "te") => `(tactic| (refine' te_p ?tep; (case tep => walk_at "tp")))
local macro_rules | `(tactic| walk_at "tp") => `(tactic| first
  | (refine' tp_test ?tea; (case tea => walk_at "ep"))
  | (refine' tp_B ?teb; (case teb => walk_at "ep"))
  | (refine' tp_not ?tec; (case tec => walk_at "tp"))
  | (refine' tp_or ?ted ?tee; (case ted => walk_at "tp"); (case tee => intro _; walk_at "tp"))
  | (refine' tp_and ?tef ?teg; (case tef => walk_at "tp"); (case teg => intro _; walk_at "tp"))
  | assumption)
section
variable {P : Program} {w : World} {K : PySem.W.Frag} {mg : Str → Option Value} {base : Heap}
def gn (k : Nat) : Str := ("g" : Str) ++ (toString (k : Int) : Str)
def pStep (xs : List Int) (s : List Gt × List Str) (k : Nat) : List Gt × List Str := (s.1 ++ [gateL (rich (cellI xs (1 + k)) k) s.2 (gn k)], s.2 ++ [gn k])
def inL (xs : List Int) (most : Nat) : List Str := (["a", "b", "c", "d"] : List Str).take (1 + cellI xs 0 % (most : Int)).toNat
def qL (xs : List Int) : List Str := (["q0", "q1"] : List Str).take (cellI xs 0 / 4 % 3).toNat
def nG (xs : List Int) : Nat := (1 + cellI xs 0 / 12 % 7).toNat
def gkL (xs : List Int) (most : Nat) : List Gt × List Str := (List.range (nG xs)).foldl (pStep xs) ([], inL xs most ++ qL xs)
def r8 (xs : List Int) : Int := rich (cellI xs 8) 8
def regL (xs : List Int) (most : Nat) (k : Nat) : RegT := ((qL xs).getD k "", pick (gkL xs most).2 (r8 xs / (3 + (k : Int))))
def mn4 (n : Int) : Int := if n < 4 then n else 4
def outL (xs : List Int) (known : List Str) (k : Nat) : Str := known.getD ((known.length : Int) - 1 - r8 xs / (7 + (k : Int)) % mn4 known.length).toNat ""
def partsL (xs : List Int) (most : Nat) : Cp :=
  ⟨inL xs most, (List.range (qL xs).length).map (regL xs most), if cellI xs 0 / 84 % 2 = 1 then (gkL xs most).1.reverse else (gkL xs most).1, (List.range (1 + r8 xs % 3).toNat).map (outL xs (gkL xs most).2)⟩
def partsD (c : Cp) : Dt := .tup [.lst (c.is.map .str), .lst (c.rs.map regD), .lst (c.gs.map Gt.d), .lst (c.os.map .str)]
theorem cut_take (xs : List Dt) (k : Nat) (h : k ≤ xs.length) : (xs.drop (HT.sIx xs.length 0 none)).take (HT.sIx xs.length xs.length (some (k : Int)) - HT.sIx xs.length 0 none) = xs.take k := by
  rw [HT.sIx_none, HT.sIx_nat, Nat.min_eq_left h]
  rfl
theorem gn_len : ∀ k : Nat, k < 7 → (toString (k : Int) : Str).length ≤ 100 := by
  intro k hk
  match k, hk with
  | 0, _ => decide +kernel
  | 1, _ => decide +kernel
  | 2, _ => decide +kernel
  | 3, _ => decide +kernel
  | 4, _ => decide +kernel
  | 5, _ => decide +kernel
  | 6, _ => decide +kernel
  | k + 7, h => omega
theorem gk_len (xs : List Int) : ∀ (l : List Nat) (s : List Gt × List Str), (l.foldl (pStep xs) s).1.length = s.1.length + l.length ∧ (l.foldl (pStep xs) s).2.length = s.2.length + l.length
  | [], s => ⟨rfl, rfl⟩
  | k :: l, s => by
    rw [List.foldl_cons]
    obtain ⟨h1, h2⟩ := gk_len xs l (pStep xs s k)
    rw [h1, h2]
    simp [pStep]
    omega
theorem in_pos (xs : List Int) (most : Nat) (h1 : 1 ≤ most) (h2 : most ≤ 4) : 1 ≤ (inL xs most).length ∧ (inL xs most).length ≤ 4 := by
  have a := Int.emod_nonneg (cellI xs 0) (show (most : Int) ≠ 0 by omega)
  have b := Int.emod_lt_of_pos (cellI xs 0) (show (0 : Int) < (most : Int) by omega)
  unfold inL
  rw [List.length_take]
  show 1 ≤ min _ 4 ∧ min _ 4 ≤ 4
  omega
theorem q_le (xs : List Int) : (qL xs).length ≤ 2 := by
  unfold qL
  rw [List.length_take]
  show min _ 2 ≤ 2
  omega
theorem nG_le (xs : List Int) : 1 ≤ nG xs ∧ nG xs ≤ 7 := by
  unfold nG
  omega
def R_law_parts (ds : List Dt) (r : Rs) : Prop := ∃ (xs : List Int) (most : Nat), ds = [.lst (xs.map .int), .int (most : Int)] ∧ 1 ≤ most ∧ most ≤ 4 ∧ r = .d (partsD (partsL xs most))
theorem l_law_parts (ds : List Dt) (r : Rs) (h : R_law_parts ds r) : ds.length = 2 := by
  obtain ⟨_, _, rfl, _⟩ := h
  rfl
abbrev N_law_parts : List Str := ["script", "most", "cell", "inputs", "names", "known", "gates", "k", "rich", "registers", "outputs"]
theorem sc_law_parts : FnScope N_law_parts ["script", "most"] (defScope s_law_parts) := ⟨rfl, rfl, rfl, by decide +kernel, rfl, by decide +kernel, by decide +kernel⟩
theorem k_law_parts (T : Txt K mg) (D : Dx K mg "_law_parts" ["script", "most"] s_law_parts)  (G__law_cell : Fx P w K mg base 1 "_law_cell" ["script", "k"] (spR P w K R_law_cell)) (G__law_gate : Fx P w K mg base 1 "_law_gate" ["rich", "known", "name"] (spR P w K R_law_gate)) (G__law_rich : Fx P w K mg base 1 "_law_rich" ["cell", "k"] (spR P w K R_law_rich)) : Fx P w K mg base 2 "_law_parts" ["script", "most"] (spR P w K R_law_parts) := by
  refine Fx.of D sc_law_parts (l_law_parts) fun f cdv A outer s H E hr => ?_
  refine ⟨_, (pss_cons (pset (i := 2) sc_law_parts.nd (pe_fx G__law_cell (hr.mono (by decide)) (pa_cons (pv 0) (pa_cons pe_int pa_nil))))
      (pss_cons (pset (i := 3) sc_law_parts.nd (pe_slice sl_list (pe_lst (pa_cons pe_str (pa_cons pe_str (pa_cons pe_str (pa_cons pe_str pa_nil))))) po_none (po_some (pe_op op_add pe_int (pe_op op_mod (pv 2) (pv 1))))))
      (pss_cons (pset (i := 4) sc_law_parts.nd (pe_slice sl_list (pe_lst (pa_cons pe_str (pa_cons pe_str pa_nil))) po_none (po_some (pe_op op_mod (pe_op op_fdiv (pv 2) pe_int) pe_int))))
      (pss_cons (pset (i := 5) sc_law_parts.nd (pe_op op_catS (pv 3) (pv 4)))
      (pss_cons (pset (i := 6) sc_law_parts.nd (pe_lst pa_nil))
      (pss_cons (ps_for PassesOwn.never rfl (pi_range1 rfl T.f_range (pa_cons (pe_op op_add pe_int (pe_op op_mod (pe_op op_fdiv (pv 2) pe_int) pe_int)) pa_nil)) (pgn (i := 7) sc_law_parts.nd)
      (pss_cons (ps_expr (pe_bm PySem.F.plainAttrs_list PySem.F.slot_list_append PySem.F.type_list_append mt_append (pv 6) (pa_cons (pe_fx G__law_gate (hr.mono (by decide)) (pa_cons (pe_fx G__law_rich (hr.mono (by decide)) (pa_cons (pe_fx G__law_cell (hr.mono (by decide)) (pa_cons (pv 0) (pa_cons (pe_op op_add pe_int (pv 7)) pa_nil))) (pa_cons (pv 7) pa_nil))) (pa_cons (pv 5) (pa_cons (pe_op op_add_str pe_str (pe_callTy call_str_int (by rfl) T.f_str (by decide +kernel) (pa_cons (pv 7) pa_nil))) pa_nil)))) pa_nil)))
      (pss_one (pset (i := 5) sc_law_parts.nd (pe_op op_catS (pv 5) (pe_lst (pa_cons (pe_op op_add_str pe_str (pe_callTy call_str_int (by rfl) T.f_str (by decide +kernel) (pa_cons (pv 7) pa_nil))) pa_nil)))))))
      (pss_cons (pset (i := 8) sc_law_parts.nd (pe_fx G__law_rich (hr.mono (by decide)) (pa_cons (pe_fx G__law_cell (hr.mono (by decide)) (pa_cons (pv 0) (pa_cons pe_int pa_nil))) (pa_cons pe_int pa_nil))))
      (pss_cons (ps_setLc (i := 9) (own := [("k", 7)]) (g := gName 7) (tt := tYes) rfl sc_law_parts.nd rfl rfl (sw_true rfl rfl rfl (by decide +kernel)) (pi_range1 rfl T.f_range (pa_cons (pe_callB cr_len (by rfl) T.f_len PySem.boot_len (pa_cons (pv 4) pa_nil)) pa_nil)) (blkOk_by (N := N_law_parts) (sc := defScope s_law_parts) (by decide +kernel)) (fun _ _ _ _ _ => (pgn (i := 7) sc_law_parts.nd)) (fun _ _ _ _ _ => pts_nil) (fun _ _ _ _ _ => (pe_tup (pa_cons (pe_ix (show IxR _ (rIxL K) from ix_list) (pv 4) (pv 7) (fun _ _ => rfl)) (pa_cons (pe_ix (show IxR _ (rIxL K) from ix_list) (pv 5) (pe_op op_mod (pe_op op_fdiv (pv 8) (pe_op op_add pe_int (pv 7))) (pe_callB (show CallR _ _ (rLenS K) from cr_len) (by rfl) T.f_len PySem.boot_len (pa_cons (pv 5) pa_nil))) (fun _ _ => rfl)) pa_nil)))))
      (pss_cons (ps_setLc (i := 10) (own := [("k", 7)]) (g := gName 7) (tt := tYes) rfl sc_law_parts.nd rfl rfl (sw_true rfl rfl rfl (by decide +kernel)) (pi_range1 rfl T.f_range (pa_cons (pe_op op_add pe_int (pe_op op_mod (pv 8) pe_int)) pa_nil)) (blkOk_by (N := N_law_parts) (sc := defScope s_law_parts) (by decide +kernel)) (fun _ _ _ _ _ => (pgn (i := 7) sc_law_parts.nd)) (fun _ _ _ _ _ => pts_nil) (fun _ _ _ _ _ => (pe_ix (show IxR _ (rIxL K) from ix_list) (pv 5) (pe_op op_sub (pe_op op_sub (pe_callB (show CallR _ _ (rLenS K) from cr_len) (by rfl) T.f_len PySem.boot_len (pa_cons (pv 5) pa_nil)) pe_int) (pe_op op_mod (pe_op op_fdiv (pv 8) (pe_op op_add pe_int (pv 7))) (pe_callB (cr_min2 rfl) (by rfl) T.f_min (by decide +kernel) (pa_cons pe_int (pa_cons (pe_callB (show CallR _ _ (rLenS K) from cr_len) (by rfl) T.f_len PySem.boot_len (pa_cons (pv 5) pa_nil)) pa_nil))))) (fun _ _ => rfl))))
      (pss_cons (ps_if (pt_cmpR op_eq (pe_op op_mod (pe_op op_fdiv (pv 2) pe_int) pe_int) pe_int (nomark _)) (pss_one (pset (i := 6) sc_law_parts.nd (pe_revL (pv 6)))) pss_nil)
      (pss_one (ps_ret (pe_tup (pa_cons (pv 3) (pa_cons (pv 9) (pa_cons (pv 6) (pa_cons (pv 10) pa_nil))))))))))))))))), ?_⟩
  rintro ds r ⟨xs, most, rfl, hm1, hm2, rfl⟩
  left
  show Se P w K _ [.d (.lst (xs.map .int)), .d (.int (most : Int)), .u, .u, .u, .u, .u, .u, .u, .u, .u] _
  have m1 := Int.emod_nonneg (cellI xs 0) (show (most : Int) ≠ 0 by omega)
  have m2 := Int.emod_lt_of_pos (cellI xs 0) (show (0 : Int) < (most : Int) by omega)
  refine se_seq (se_asg (d := .int (cellI xs 0)) (ee_p (ep_call (ap_cons ep_var (ap_cons ep_int ap_nil)) ⟨xs, 0, rfl, rfl⟩))) ?_
  refine se_seq (se_asg (d := .lst ((inL xs most).map .str)) (ee_p (ep_is (ep_new (np_slL (xs := (["a", "b", "c", "d"] : List Str).map .str) (hi := some (((1 + cellI xs 0 % (most : Int)).toNat : Nat) : Int)) (lo := none) (by walk_at "ep") qo_none (qo_some (ep_is (by walk_at "ep") (congrArg Dt.int (Int.toNat_of_nonneg (by omega)).symm))))) ?_))) ?_
  · rw [cut_take _ _ (by show _ ≤ 4; omega)]
    unfold inL
    rw [List.map_take]
  refine se_seq (se_asg (d := .lst ((qL xs).map .str)) (ee_p (ep_is (ep_new (np_slL (xs := (["q0", "q1"] : List Str).map .str) (hi := some (((cellI xs 0 / 4 % 3).toNat : Nat) : Int)) (lo := none) (by walk_at "ep") qo_none (qo_some (ep_is (by walk_at "ep") (congrArg Dt.int (Int.toNat_of_nonneg (by omega)).symm))))) ?_))) ?_
  · rw [cut_take _ _ (by show _ ≤ 2; omega)]
    unfold qL
    rw [List.map_take]
  have hin := in_pos xs most hm1 hm2
  have hq := q_le xs
  have hng := nG_le xs
  refine se_seq (se_asg (d := .lst ((inL xs most ++ qL xs).map .str)) (ee_p (ep_is (ep_op ep_var ep_var (r2_cat (by simp; omega))) (by rw [List.map_append])))) ?_
  refine se_seq (se_own (en_p (np_lst ap_nil))) ?_
  let E7 : List Gt × List Str → En := fun s => [.d (.lst (xs.map .int)), .d (.int (most : Int)), .d (.int (cellI xs 0)), .d (.lst ((inL xs most).map .str)), .d (.lst ((qL xs).map .str)), .d (.lst (s.2.map .str)), .ow none (.lst (s.1.map Gt.d)), .x, .x, .x, .x]
  refine se_seq (env1 := E7 (gkL xs most)) (se_rng (nG xs) (ap_cons (ep_is (by walk_at "ep") (congrArg Dt.int (show (1 + cellI xs 0 / 12 % 7 : Int) = (nG xs : Int) by unfold nG; omega))) ap_nil) (by omega) E7 (pStep xs) (fun s k => s.1.length = k ∧ s.2.length = (inL xs most ++ qL xs).length + k) ([], inL xs most ++ qL xs) ?_ ⟨rfl, rfl⟩ ?_) ?_
  · exact Le.s (Le.s (Le.s (Le.s (Le.s (Le.s (Le.s (Le.x (Le.x (Le.x (Le.x Le.nil))))))))))
  · rintro s k hk ⟨h1, h2⟩
    rw [List.length_append] at h2
    refine ⟨⟨by simp [pStep, h1], by simp [pStep, h2]; omega⟩, _, ge_name, ?_⟩
    have hgl := gn_len k (by omega)
    have hg0 : ("g" : Str).length = 1 := by decide +kernel
    have hg1 : ("g" : Str).length + (toString (k : Int) : Str).length ≤ 100000 := by omega
    have hne : s.2 ≠ [] := by
      intro z
      rw [z] at h2
      simp at h2
      omega
    have eg : ∀ {en : En}, en[7]? = some (.d (.int (k : Int))) → Ep P w K (tOp (fun x y H Q => ∃ i j, x = V.str i ∧ y = V.str j ∧ i.length + j.length ≤ sizeLine ∧ Q (.str (i ++ j)) H) (tC (.str "g")) (tCB (fun xs H Q => ∃ j, xs = [V.int j] ∧ j.natAbs.log2 < 1920 ∧ Q (.str (toString j)) H) (tCons (tVar 7) tNil))) en (.str (gn k)) := fun h => ep_op ep_str (ep_cb (ap_cons (ep_var h) ap_nil) (rl_strI (by omega))) (r2_addS hg1)
    refine se_nc (se_le (se_seq (se_app (xs := s.1.map Gt.d) (d := (gateL (rich (cellI xs (1 + k)) k) s.2 (gn k)).d) rfl (ee_p (ep_call (ap_cons (ep_call (ap_cons (ep_call (ap_cons ep_var (ap_cons (ep_is (e := .int ((1 + k : Nat) : Int)) (by walk_at "ep") (by simp)) ap_nil)) ⟨xs, 1 + k, rfl, rfl⟩) (ap_cons ep_var ap_nil)) ⟨_, (k : Int), rfl, rfl⟩) (ap_cons ep_var (ap_cons (eg rfl) ap_nil))) ⟨_, s.2, gn k, rfl, rich_nonneg _ _, hne, by omega, rfl⟩)) rfl (by rw [List.length_map]; omega)) (se_asg (d := .lst ((s.2 ++ [gn k]).map .str)) (ee_p (ep_is (ep_op ep_var (ep_lst (ap_cons (eg rfl) ap_nil)) (r2_cat (by simp; omega))) (by rw [List.map_append]; rfl))))) ?_)
    have e : s.1.map Gt.d ++ [(gateL (rich (cellI xs (1 + k)) k) s.2 (gn k)).d] = (pStep xs s k).1.map Gt.d := by simp [pStep]
    rw [e]
    exact Le.s (Le.s (Le.s (Le.s (Le.s (Le.s (Le.s (Le.x (Le.s (Le.s (Le.s Le.nil))))))))))
  obtain ⟨hl1, hl2⟩ := gk_len xs (List.range (nG xs)) ([], inL xs most ++ qL xs)
  have hl1 : (gkL xs most).1.length = nG xs := by show ((List.range (nG xs)).foldl (pStep xs) ([], inL xs most ++ qL xs)).1.length = _; rw [hl1]; simp
  have hl2 : (gkL xs most).2.length = (inL xs most).length + (qL xs).length + nG xs := by show ((List.range (nG xs)).foldl (pStep xs) ([], inL xs most ++ qL xs)).2.length = _; rw [hl2]; simp
  have hne : (gkL xs most).2 ≠ [] := by
    intro z
    rw [z] at hl2
    simp at hl2
    omega
  have hr8 : 0 ≤ r8 xs := rich_nonneg _ _
  refine se_seq (se_asg (d := .int (r8 xs)) (ee_p (ep_call (ap_cons (ep_call (ap_cons ep_var (ap_cons ep_int ap_nil)) ⟨xs, 8, rfl, rfl⟩) (ap_cons ep_int ap_nil)) ⟨_, 8, rfl, rfl⟩))) ?_
  refine se_seq (se_asg (d := .lst ((partsL xs most).rs.map regD)) (ee_p (ep_is (ep_new (np_rng (n := (qL xs).length) (ap_cons (ep_is (ep_cb (ap_cons ep_var ap_nil) rl_len) (by rw [List.length_map])) ap_nil) (by omega) (fun k => regD (regL xs most k)) fun k hk => ?_)) (by show Dt.lst _ = Dt.lst (((List.range (qL xs).length).map (regL xs most)).map regD); rw [List.map_map]; rfl)))) ?_
  · obtain ⟨p1, p2⟩ := pick_at hne (r8 xs / (3 + (k : Int)))
    refine ep_tup (ap_cons (ep_op ep_var ep_var (r2_ixL (z := .str ((qL xs).getD k "")) (ixN_at (by omega) (by rw [List.length_map]; omega)) (by rw [Int.toNat_natCast, List.getElem?_map, itemD (l := qL xs) "" hk]; rfl))) (ap_cons (ep_op ep_var (ep_op (ep_op ep_var (by walk_at "ep") (r2_I (show CDiv _ _ from ⟨?_, ?_⟩))) (ep_cb (ap_cons ep_var ap_nil) rl_len) (r2_I ?_)) (r2_ixL p1 p2)) ap_nil))
    · omega
    · omega
    · show (0 : Int) < (((gkL xs most).2.map Dt.str).length : Int)
      rw [List.length_map]
      omega
  refine se_seq (se_asg (d := .lst ((partsL xs most).os.map .str)) (ee_p (ep_is (ep_new (np_rng (n := (1 + r8 xs % 3).toNat) (ap_cons (ep_is (by walk_at "ep") (congrArg Dt.int (Int.toNat_of_nonneg (by omega)).symm)) ap_nil) (by omega) (fun k => Dt.str (outL xs (gkL xs most).2 k)) fun k hk => ?_)) (by show Dt.lst _ = Dt.lst (((List.range (1 + r8 xs % 3).toNat).map (outL xs (gkL xs most).2)).map Dt.str); rw [List.map_map]; rfl)))) ?_
  · have hmn : 0 < mn4 (gkL xs most).2.length ∧ mn4 (gkL xs most).2.length ≤ ((gkL xs most).2.length : Int) := by
      unfold mn4
      split <;> omega
    have n1 := Int.emod_nonneg (r8 xs / (7 + (k : Int))) (show mn4 (gkL xs most).2.length ≠ 0 by omega)
    have n2 := Int.emod_lt_of_pos (r8 xs / (7 + (k : Int))) hmn.1
    refine ep_op ep_var (ep_op (ep_op (ep_is (ep_cb (ap_cons ep_var ap_nil) rl_len) (e := .int ((gkL xs most).2.length : Int)) (by rw [List.length_map])) ep_int r2_I0) (ep_op (ep_op ep_var (by walk_at "ep") (r2_I (show CDiv _ _ from ⟨?_, ?_⟩))) (ep_is (ep_cb (ap_cons ep_int (ap_cons (ep_is (ep_cb (ap_cons ep_var ap_nil) rl_len) (e := .int ((gkL xs most).2.length : Int)) (by rw [List.length_map])) ap_nil)) rl_min2) (e := .int (mn4 (gkL xs most).2.length)) rfl) (r2_I ?_)) r2_I0) (r2_ixL (z := .str (outL xs (gkL xs most).2 k)) (ixN_at ?_ ?_) ?_)
    · omega
    · omega
    · exact hmn.1
    · omega
    · rw [List.length_map]
      omega
    · rw [List.getElem?_map, itemD (l := (gkL xs most).2) "" (by omega)]
      rfl
  refine se_freeze (i := 6) (t' := none) (v := .lst ((gkL xs most).1.map Gt.d)) rfl rfl ?_
  refine se_when (b := decide (cellI xs 0 / 84 % 2 = 1)) (te_p (tp_test (ep_op (by walk_at "ep") ep_int r2_eqI))) (fun hb => ?_) (fun hb => ?_)
  · have e : (partsL xs most).gs = (gkL xs most).1.reverse := if_pos (of_decide_eq_true hb)
    refine se_seq (se_asg (d := .lst ((partsL xs most).gs.map Gt.d)) (ee_p (ep_is (ep_revL (ep_var rfl)) (by rw [e, List.map_reverse])))) ?_
    exact se_ret (ee_p (by walk_at "ep"))
  · have e : (partsL xs most).gs = (gkL xs most).1 := if_neg (of_decide_eq_false hb)
    refine se_is (se_ret (ee_p (ep_tup (ap_cons ep_var (ap_cons ep_var (ap_cons ep_var (ap_cons ep_var ap_nil))))))) ?_
    unfold partsD
    rw [e]
    rfl
end
end CC
set_option maxHeartbeats 400000
namespace CC
open PySem PySem.Spec PyProof.Rows L2 Qw
open Evl hiding ea_cons
open Pw (Dt Rp RpL Wk R2d R1d RLd RLn Kq KqL truD flatD fl py pyL rangeD charsD spX2 Xm Xm0 tyD isI isB isS isTp isL rl_isInt rl_isBool rl_isStr rl_isTup rl_isList rl_int rl_max2 rl_min2 rl_len rl_lenT rl_tup rl_tupT rl_lenS rl_all rl_any rn_list rn_listT r2_I0 r2_B0 r2_eqI r2_neI r2_eqS r2_neS r2_eq r2_ne r2_I r2_inS r2_niS r2_in r2_inT r2_ixL r2_ixT r2_ixS r2_addS r2_eqD r2_neD r2_ixM r1_U ixN_at itemD cr_int cr_min2 cr_max2 cr_list cr_tuple cr_len pe_globI pe_globS pe_globR pe_tyname rTupS rInt1 rMin2)
local macro_rules | `(tactic| walk_at "side") => `(tactic| first
  | decide | omega | assumption | (show (0 : Int) < _; omega) | exact (show CDiv _ _ from ⟨by omega, by omega⟩) | exact (show CMul _ _ from Or.inr ⟨by omega, by omega⟩) | exact (show CMul _ _ from Or.inl ⟨by omega, by omega⟩) | exact (show CPow _ _ from ⟨by decide, by decide, by decide⟩))
local macro_rules | `(tactic| walk_at "op") => `(tactic| first
  | exact r2_I0 | exact r2_B0 | exact r2_eqI | exact r2_neI | exact r2_eqS | exact r2_neS
  | exact r2_eq rfl rfl rfl | exact r2_ne rfl rfl rfl
  | (refine' r2_I ?_; walk_at "side") | exact r2_inS | exact r2_niS)
local macro_rules | `(tactic| walk_at "rl") => `(tactic| first
  | exact rl_int | exact rl_max2 | exact rl_min2 | exact rl_len | exact rl_lenT | exact rl_isInt (by first | rfl | assumption) | exact rl_isBool (by first | rfl | assumption) | exact rl_isStr (by first | rfl | assumption) | exact rl_isTup (by first | rfl | assumption) | exact rl_isList (by first | rfl | assumption) | exact rl_tup | exact rl_tupT | (refine' rl_lenS ?_; walk_at "side"))
local macro_rules | `(tactic| walk_at "ap") => `(tactic| first
  | exact ap_nil
  | (refine' ap_cons ?eah ?eat; (case eah => walk_at "ep"); (case eat => walk_at "ap")))
local macro_rules | `(tactic| walk_at "ep") => `(tactic| first
  | exact ep_int | exact ep_bl | exact ep_str | exact ep_non | exact ep_ty | exact ep_var
  | (refine' ep_op ?eva ?evb ?evc; (case eva => walk_at "ep"); (case evb => walk_at "ep"); (case evc => walk_at "op"))
  | (refine' ep_cb ?evd ?eve; (case evd => walk_at "ap"); (case eve => walk_at "rl"))
  | (refine' ep_un ?evf r1_U; (case evf => walk_at "ep"))
  | (refine' ep_tup ?evg ?evi; (case evg => walk_at "ap"); (case evi => exact Nat.le_of_ble_eq_true rfl))
  | (refine' ep_lst ?evh ?evj; (case evh => walk_at "ap"); (case evj => exact Nat.le_of_ble_eq_true rfl))
  | assumption)
local macro_rules | `(tactic| walk_at "ee") => `(tactic| (refine' ee_p ?eep; (case eep => walk_at "ep")))
local macro_rules | `(tactic| walk_at "te") => `(tactic| (refine' te_p ?tep; (case tep => walk_at "tp")))
local macro_rules | `(tactic| walk_at "tp") => `(tactic| first
  | (refine' tp_test ?tea; (case tea => walk_at "ep"))
  | (refine' tp_B ?teb; (case teb => walk_at "ep"))
  | (refine' tp_not ?tec; (case tec => walk_at "tp"))
  | (refine' tp_or ?ted ?tee; (case ted => walk_at "tp"); (case tee => intro _; walk_at "tp"))
  | (refine' tp_and ?tef ?teg; (case tef => walk_at "tp"); (case teg => intro _; walk_at "tp"))
  | assumption)
section
variable {P : Program} {w : World} {K : PySem.W.Frag} {mg : Str → Option Value} {base : Heap}
def Ordd (src : List Str) (fo : List Gt) : Prop := ∀ (pre : List Gt) (g : Gt) (post : List Gt), fo = pre ++ g :: post → ∀ p ∈ g.ps, p ∈ src ∨ p ∈ pre.map Gt.l
structure OI (src : List Str) (gs : List Gt) (k : List Str) (fo ws : List Gt) : Prop where
  perm : (fo ++ ws).Perm gs
  kn : ∀ x, x ∈ k ↔ x ∈ src ∨ x ∈ fo.map Gt.l
  od : Ordd src fo
theorem mem_ins {k : List Str} {a x : Str} : x ∈ ins k a ↔ x ∈ k ∨ x = a := by
  unfold ins
  split
  · rename_i h
    exact ⟨.inl, fun z => z.elim id fun e => e ▸ h⟩
  · simp
theorem ostep_oi {src : List Str} {gs : List Gt} {s : Os} {g : Gt} {rest : List Gt} (h : OI src gs s.kn s.fo (s.le ++ g :: rest)) : OI src gs (ostep s g).kn (ostep s g).fo ((ostep s g).le ++ rest) := by
  unfold ostep
  split
  · rename_i hc
    refine ⟨?_, fun x => ?_, ?_⟩
    · refine List.Perm.trans ?_ h.perm
      show ((s.fo ++ [g]) ++ (s.le ++ rest)).Perm _
      rw [List.append_assoc]
      exact List.Perm.append_left _ (show (g :: (s.le ++ rest)).Perm (s.le ++ g :: rest) from List.perm_middle.symm)
    · show x ∈ ins s.kn g.l ↔ _
      rw [mem_ins, h.kn]
      simp [or_assoc]
    · intro pre g' post e p hp
      rcases List.eq_nil_or_concat post with rfl | ⟨post', z, rfl⟩
      · have e2 := List.append_inj' (show s.fo ++ [g] = pre ++ [g'] from e) rfl
        obtain ⟨rfl, e3⟩ := e2
        cases e3
        have := List.all_eq_true.mp hc p hp
        exact (h.kn p).mp (of_decide_eq_true this)
      · have e2 := List.append_inj' (show s.fo ++ [g] = (pre ++ g' :: post') ++ [z] by rw [List.append_assoc]; rw [List.concat_eq_append] at e; exact e) rfl
        exact h.od pre g' post' e2.1 p hp
  · refine ⟨?_, h.kn, h.od⟩
    show (s.fo ++ ((s.le ++ [g]) ++ rest)).Perm gs
    rw [List.append_assoc]
    exact h.perm
theorem opass_oi {src : List Str} {gs : List Gt} : ∀ (ws : List Gt) (s : Os), OI src gs s.kn s.fo (s.le ++ ws) → OI src gs (ws.foldl ostep s).kn (ws.foldl ostep s).fo (ws.foldl ostep s).le
  | [], s, h => by simpa using h
  | g :: ws, s, h => by
    rw [List.foldl_cons]
    exact opass_oi ws _ (ostep_oi h)
theorem opass_mono : ∀ (ws : List Gt) (s : Os), ∀ x ∈ s.kn, x ∈ (ws.foldl ostep s).kn
  | [], s, x, h => h
  | g :: ws, s, x, h => by
    rw [List.foldl_cons]
    refine opass_mono ws _ x ?_
    unfold ostep
    split
    · exact mem_ins.mpr (.inl h)
    · exact h
theorem opass_less {k : List Str} {fo ws : List Gt} {g : Gt} (hg : g ∈ ws) (hp : ∀ p ∈ g.ps, p ∈ k) : (opass k fo ws).le.length < ws.length := by
  obtain ⟨a, b, rfl⟩ := List.append_of_mem hg
  have h1 := opass_len a ⟨k, fo, []⟩
  have hm := opass_mono a ⟨k, fo, []⟩
  have h2 := opass_len b (ostep (a.foldl ostep ⟨k, fo, []⟩) g)
  have h3 := opass_len (a ++ g :: b) ⟨k, fo, []⟩
  have e : (a ++ g :: b).foldl ostep ⟨k, fo, []⟩ = b.foldl ostep (ostep (a.foldl ostep ⟨k, fo, []⟩) g) := by rw [List.foldl_append, List.foldl_cons]
  have hs : (ostep (a.foldl ostep ⟨k, fo, []⟩) g).fo.length = (a.foldl ostep ⟨k, fo, []⟩).fo.length + 1 := by
    have e3 : ∀ s : Os, (∀ p ∈ g.ps, p ∈ s.kn) → (ostep s g).fo = s.fo ++ [g] := fun s h => by
      unfold ostep
      rw [if_pos (List.all_eq_true.mpr fun p z => decide_eq_true (h p z))]
    rw [e3 _ fun p h => hm p (hp p h)]
    simp
  have h4 := h3.1
  have h5 := h2.2.1.2
  have h6 := h1.2.1.2
  unfold opass
  rw [e] at h4 ⊢
  simp only [List.length_nil, Nat.add_zero] at h4
  have h6 : fo.length ≤ (a.foldl ostep ⟨k, fo, []⟩).fo.length := h6
  omega
theorem min_rk (rk : Gt → Nat) : ∀ l : List Gt, l ≠ [] → ∃ g ∈ l, ∀ h ∈ l, rk g ≤ rk h
  | [], h => absurd rfl h
  | [g], _ => ⟨g, by simp, by simp⟩
  | g :: g2 :: l, _ => by
    obtain ⟨m, h1, h2⟩ := min_rk rk (g2 :: l) (by simp)
    by_cases e : rk g ≤ rk m
    · refine ⟨g, by simp, fun h hh => ?_⟩
      rcases List.mem_cons.mp hh with rfl | hh
      · exact Nat.le_refl _
      · exact Nat.le_trans e (h2 h hh)
    · refine ⟨m, List.mem_cons_of_mem _ h1, fun h hh => ?_⟩
      rcases List.mem_cons.mp hh with rfl | hh
      · omega
      · exact h2 h hh
theorem ordN_ok {src : List Str} {gs : List Gt} (rk : Gt → Nat) (hr : ∀ g ∈ gs, ∀ p ∈ g.ps, p ∈ src ∨ ∃ h ∈ gs, h.l = p ∧ rk h < rk g) : ∀ (n : Nat) (k : List Str) (fo ws : List Gt), ws.length ≤ n → OI src gs k fo ws → ∃ k' fo', ordN n k fo ws = .ok (k', fo') ∧ OI src gs k' fo' []
  | n, k, fo, [], _, h => ⟨k, fo, by cases n <;> rfl, h⟩
  | 0, _, _, g :: ws, hn, _ => by simp at hn
  | n + 1, k, fo, g :: ws, hn, h => by
    obtain ⟨m, m1, m2⟩ := min_rk rk (g :: ws) (by simp)
    have hmg : m ∈ gs := h.perm.mem_iff.mp (List.mem_append_right _ m1)
    have hless := opass_less (k := k) (fo := fo) m1 fun p hp => by
      rcases hr m hmg p hp with z | ⟨x, x1, x2, x3⟩
      · exact (h.kn p).mpr (.inl z)
      · rcases List.mem_append.mp (h.perm.mem_iff.mpr x1) with y | y
        · exact (h.kn p).mpr (.inr (List.mem_map.mpr ⟨x, y, x2⟩))
        · have := m2 x y
          omega
    have e : ordN (n + 1) k fo (g :: ws) = ordN n (opass k fo (g :: ws)).kn (opass k fo (g :: ws)).fo (opass k fo (g :: ws)).le := if_neg (by omega)
    rw [e]
    have hoi : OI src gs (opass k fo (g :: ws)).kn (opass k fo (g :: ws)).fo (opass k fo (g :: ws)).le := opass_oi (g :: ws) ⟨k, fo, []⟩ h
    exact ordN_ok rk hr n _ _ _ (by simp at hn hless; omega) hoi
theorem mem_foldins (l : List Str) : ∀ (q : List Str) (x : Str), x ∈ l.foldl ins q ↔ x ∈ q ∨ x ∈ l := by
  induction l with
  | nil => intro q x; simp
  | cons a l ih =>
    intro q x
    rw [List.foldl_cons, ih, mem_ins]
    simp [or_assoc]
theorem order_ok {src : List Str} {gs : List Gt} (rk : Gt → Nat) (hr : ∀ g ∈ gs, ∀ p ∈ g.ps, p ∈ src ∨ ∃ h ∈ gs, h.l = p ∧ rk h < rk g) : ∃ k ord, order src gs = .ok (k, ord) ∧ ord.Perm gs ∧ Ordd src ord := by
  obtain ⟨k, ord, e, h⟩ := ordN_ok rk hr gs.length (src.foldl ins []) [] gs (Nat.le_refl _) ⟨by simp, fun x => by rw [mem_foldins]; simp, fun pre g post z => by simp at z⟩
  exact ⟨k, ord, e, by simpa using h.perm, h.od⟩
def ALL : List Str := ["a", "b", "c", "d", "q0", "q1", "g0", "g1", "g2", "g3", "g4", "g5", "g6"]
def k0 (xs : List Int) (most : Nat) : List Str := inL xs most ++ qL xs
def gAt (xs : List Int) (most k : Nat) : Gt := gateL (rich (cellI xs (1 + k)) k) (k0 xs most ++ (List.range k).map gn) (gn k)
theorem gk_is (xs : List Int) (most : Nat) : ∀ n : Nat, (List.range n).foldl (pStep xs) ([], k0 xs most) = ((List.range n).map (gAt xs most), k0 xs most ++ (List.range n).map gn)
  | 0 => by simp
  | n + 1 => by
    rw [List.range_succ, List.foldl_append, gk_is xs most n]
    simp [pStep, gAt]
theorem gk1 (xs : List Int) (most : Nat) : (gkL xs most).1 = (List.range (nG xs)).map (gAt xs most) := congrArg Prod.fst (gk_is xs most (nG xs))
theorem gk2 (xs : List Int) (most : Nat) : (gkL xs most).2 = k0 xs most ++ (List.range (nG xs)).map gn := congrArg Prod.snd (gk_is xs most (nG xs))
theorem gns7 : (List.range 7).map gn = (["g0", "g1", "g2", "g3", "g4", "g5", "g6"] : List Str) := by decide +kernel
theorem range_sub {n m : Nat} (h : n ≤ m) : (List.range n).Sublist (List.range m) := by
  obtain ⟨d, rfl⟩ := Nat.exists_eq_add_of_le h
  rw [List.range_add]
  exact List.sublist_append_left _ _
theorem known_sub (xs : List Int) (most : Nat) : (k0 xs most ++ (List.range (nG xs)).map gn).Sublist ALL := by
  have e : ALL = ((["a", "b", "c", "d"] : List Str) ++ (["q0", "q1"] : List Str)) ++ (List.range 7).map gn := by rw [gns7]; rfl
  rw [e]
  exact List.Sublist.append (List.Sublist.append (List.take_sublist _ _) (List.take_sublist _ _)) ((range_sub (nG_le xs).2).map gn)
theorem all_nodup : ALL.Nodup := by decide +kernel
theorem known_nodup (xs : List Int) (most : Nat) : (k0 xs most ++ (List.range (nG xs)).map gn).Nodup := (known_sub xs most).nodup all_nodup
theorem map_getD (l : List Str) : (List.range l.length).map (fun k => l.getD k "") = l := by
  apply List.ext_getElem
  · simp
  · intro i h1 h2
    simp only [List.getElem_map, List.getElem_range, List.getD_eq_getElem?_getD]
    rw [List.getElem?_eq_getElem h2]
    rfl
theorem rs1 (xs : List Int) (most : Nat) : (partsL xs most).rs.map Prod.fst = qL xs := by
  show ((List.range (qL xs).length).map (regL xs most)).map Prod.fst = _
  rw [List.map_map]
  exact map_getD (qL xs)
theorem gate_l (c : Int) (known : List Str) (name : Str) : (gateL c known name).l = name := by
  unfold gateL
  split <;> rfl
theorem pick_mem {known : List Str} (h : known ≠ []) (r : Int) : pick known r ∈ known := by
  have hl : 0 < known.length := List.length_pos_iff.mpr h
  have h1 := Int.emod_nonneg r (show (known.length : Int) ≠ 0 by omega)
  have h2 := Int.emod_lt_of_pos r (show (0 : Int) < known.length by omega)
  exact List.mem_of_getElem? (itemD (l := known) "" (show (r % (known.length : Int)).toNat < known.length by omega))
theorem gate_ps {c : Int} {known : List Str} {name : Str} (h : known ≠ []) : ∀ p ∈ (gateL c known name).ps, p ∈ known := by
  unfold gateL
  split
  · intro p hp
    cases hp
  · intro p hp
    obtain ⟨i, _, rfl⟩ := List.mem_map.mp hp
    exact pick_mem h _
theorem kind_mem (c : Int) : kindL c ∈ K13 := by
  have h1 := Int.emod_nonneg c (show (13 : Int) ≠ 0 by omega)
  have h2 := Int.emod_lt_of_pos c (show (0 : Int) < 13 by omega)
  exact List.mem_of_getElem? (itemD (l := K13) "" (show (c % 13).toNat < 13 by omega))
theorem gate_form (c : Int) (known : List Str) (name : Str) : (gateL c known name).k ∈ KIN ∧ mayHave (gateL c known name).k ((gateL c known name).ps.length : Int) = true ∧ (gateL c known name).ps.length ≤ 4 := by
  have hk : ∀ k ∈ K13, k ∈ KIN ∧ ((k ∈ (["low", "high"] : List Str) → mayHave k 0 = true) ∧ ((¬ k ∈ (["low", "high"] : List Str) → k ∈ (["not", "buf"] : List Str) → mayHave k 1 = true) ∧ (¬ k ∈ (["low", "high"] : List Str) → ¬ k ∈ (["not", "buf"] : List Str) → (mayHave k 1 = true ∧ mayHave k 2 = true ∧ mayHave k 3 = true ∧ mayHave k 4 = true)))) := by decide +kernel
  obtain ⟨a1, a2, a3, a4⟩ := hk _ (kind_mem c)
  unfold gateL
  split
  · rename_i h
    exact ⟨a1, a2 h, Nat.zero_le _⟩
  · rename_i h
    refine ⟨a1, ?_, by simp; exact cntL_le c⟩
    show mayHave (kindL c) ((((List.range (cntL c)).map (pinI known c)).length : Nat) : Int) = true
    rw [List.length_map, List.length_range]
    by_cases e : kindL c ∈ (["not", "buf"] : List Str)
    · have : cntL c = 1 := if_pos e
      rw [this]
      exact a3 h e
    · obtain ⟨b1, b2, b3, b4⟩ := a4 h e
      have h1 := Int.emod_nonneg (c / 13) (show (6 : Int) ≠ 0 by omega)
      have h2 := Int.emod_lt_of_pos (c / 13) (show (0 : Int) < 6 by omega)
      have e2 : cntL c = ([2, 2, 3, 1, 2, 4] : List Nat).getD (c / 13 % 6).toNat 0 := if_neg e
      rw [e2]
      have : (c / 13 % 6).toNat < 6 := by omega
      match (c / 13 % 6).toNat, this with
      | 0, _ => exact b2
      | 1, _ => exact b2
      | 2, _ => exact b3
      | 3, _ => exact b1
      | 4, _ => exact b2
      | 5, _ => exact b4
      | n + 6, z => omega
theorem k0_ne (xs : List Int) (most : Nat) (h1 : 1 ≤ most) (h2 : most ≤ 4) (l : List Str) : k0 xs most ++ l ≠ [] := by
  have := (in_pos xs most h1 h2).1
  intro z
  have e : (k0 xs most ++ l).length = 0 := by rw [z]; rfl
  unfold k0 at e
  rw [List.length_append, List.length_append] at e
  omega
theorem gs_mem {xs : List Int} {most : Nat} {g : Gt} : g ∈ (partsL xs most).gs ↔ ∃ k, k < nG xs ∧ g = gAt xs most k := by
  have : g ∈ (partsL xs most).gs ↔ g ∈ (gkL xs most).1 := by
    show g ∈ (if cellI xs 0 / 84 % 2 = 1 then (gkL xs most).1.reverse else (gkL xs most).1) ↔ _
    split <;> simp
  rw [this, gk1]
  simp only [List.mem_map, List.mem_range]
  exact ⟨fun ⟨k, h, e⟩ => ⟨k, h, e.symm⟩, fun ⟨k, h, e⟩ => ⟨k, h, e.symm⟩⟩
theorem gs_perm (xs : List Int) (most : Nat) : (partsL xs most).gs.Perm ((List.range (nG xs)).map (gAt xs most)) := by
  rw [← gk1]
  show (if cellI xs 0 / 84 % 2 = 1 then (gkL xs most).1.reverse else (gkL xs most).1).Perm _
  split
  · exact List.reverse_perm _
  · exact List.Perm.refl _
theorem lines_perm (xs : List Int) (most : Nat) : (linesOf (partsL xs most).is (partsL xs most).rs (partsL xs most).gs).Perm (k0 xs most ++ (List.range (nG xs)).map gn) := by
  unfold linesOf srcOf
  rw [rs1]
  refine List.Perm.append_left _ ?_
  refine ((gs_perm xs most).map Gt.l).trans ?_
  rw [List.map_map]
  refine List.Perm.of_eq (List.map_congr_left fun k _ => ?_)
  exact gate_l _ _ _
end
end CC
set_option maxHeartbeats 400000
namespace CC
open PySem PySem.Spec PyProof.Rows L2 Qw
open Evl hiding ea_cons
open Pw (Dt Rp RpL Wk R2d R1d RLd RLn Kq KqL truD flatD fl py pyL rangeD charsD spX2 Xm Xm0 tyD isI isB isS isTp isL rl_isInt rl_isBool rl_isStr rl_isTup rl_isList rl_int rl_max2 rl_min2 rl_len rl_lenT rl_tup rl_tupT rl_lenS rl_all rl_any rn_list rn_listT r2_I0 r2_B0 r2_eqI r2_neI r2_eqS r2_neS r2_eq r2_ne r2_I r2_inS r2_niS r2_in r2_inT r2_ixL r2_ixT r2_ixS r2_addS r2_eqD r2_neD r2_ixM r1_U ixN_at itemD cr_int cr_min2 cr_max2 cr_list cr_tuple cr_len pe_globI pe_globS pe_globR pe_tyname rTupS rInt1 rMin2)
local macro_rules | `(tactic| walk_at "side") => `(tactic| first
  | decide | omega | assumption | (show (0 : Int) < _; omega) | exact (show CDiv _ _ from ⟨by omega, by omega⟩) | exact (show CMul _ _ from Or.inr ⟨by omega, by omega⟩) | exact (show CMul _ _ from Or.inl ⟨by omega, by omega⟩) | exact (show CPow _ _ from ⟨by decide, by decide, by decide⟩))
local macro_rules | `(tactic| walk_at "op") => `(tactic| first
  | exact r2_I0 | exact r2_B0 | exact r2_eqI | exact r2_neI | exact r2_eqS | exact r2_neS
  | exact r2_eq rfl rfl rfl | exact r2_ne rfl rfl rfl
  | (refine' r2_I ?_; walk_at "side") | exact r2_inS | exact r2_niS)
local macro_rules | `(tactic| walk_at "rl") => `(tactic| first
  | exact rl_int | exact rl_max2 | exact rl_min2 | exact rl_len | exact rl_lenT | exact rl_isInt (by first | rfl | assumption) | exact rl_isBool (by first | rfl | assumption) | exact rl_isStr (by first | rfl | assumption) | exact rl_isTup (by first | rfl | assumption) | exact rl_isList (by first | rfl | assumption) | exact rl_tup | exact rl_tupT | (refine' rl_lenS ?_; walk_at "side"))
local macro_rules | `(tactic| walk_at "ap") => `(tactic| first
  | exact ap_nil
  | (refine' ap_cons ?eah ?eat; (case eah => walk_at "ep"); (case eat => walk_at "ap")))
local macro_rules | `(tactic| walk_at "ep") => `(tactic| first
  | exact ep_int | exact ep_bl | exact ep_str | exact ep_non | exact ep_ty | exact ep_var
  | (refine' ep_op ?eva ?evb ?evc; (case eva => walk_at "ep"); (case evb => walk_at "ep"); (case evc => walk_at "op"))
  | (refine' ep_cb ?evd ?eve; (case evd => walk_at "ap"); (case eve => walk_at "rl"))
  | (refine' ep_un ?evf r1_U; (case evf => walk_at "ep"))
  | (refine' ep_tup ?evg ?evi; (case evg => walk_at "ap"); (case evi => exact Nat.le_of_ble_eq_true rfl))
  | (refine' ep_lst ?evh ?evj; (case evh => walk_at "ap"); (case evj => exact Nat.le_of_ble_eq_true rfl))
  | assumption)
local macro_rules | `(tactic| walk_at "ee") => `(tactic| (refine' ee_p ?eep; (case eep => walk_at "ep")))
local macro_rules | `(tactic| walk_at "te") => `(tactic| (refine' te_p ?tep; (case tep => walk_at "tp")))
local macro_rules | `(tactic| walk_at "tp") => `(tactic| first
  | (refine' tp_test ?tea; (case tea => walk_at "ep"))
  | (refine' tp_B ?teb; (case teb => walk_at "ep"))
  | (refine' tp_not ?tec; (case tec => walk_at "tp"))
  | (refine' tp_or ?ted ?tee; (case ted => walk_at "tp"); (case tee => intro _; walk_at "tp"))
  | (refine' tp_and ?tef ?teg; (case tef => walk_at "tp"); (case teg => intro _; walk_at "tp"))
  | assumption)
section
variable {P : Program} {w : World} {K : PySem.W.Frag} {mg : Str → Option Value} {base : Heap}
theorem dup_none : ∀ (l seen : List Str), l.Nodup → (∀ x ∈ l, ¬ x ∈ seen) → dupOf seen l = none
  | [], _, _, _ => rfl
  | a :: l, seen, h, hs => by
    have h1 : ¬ a ∈ seen := hs a (by simp)
    have e : dupOf seen (a :: l) = dupOf (seen ++ [a]) l := if_neg h1
    rw [e]
    obtain ⟨n1, n2⟩ := List.nodup_cons.mp h
    refine dup_none l _ n2 fun x hx z => ?_
    rcases List.mem_append.mp z with z | z
    · exact hs x (by simp [hx]) z
    · exact n1 (List.mem_singleton.mp z ▸ hx)
theorem rk_gn : ∀ k : Nat, k < 7 → ((List.range 7).map gn).idxOf (gn k) = k := by
  intro k hk
  match k, hk with
  | 0, _ => decide +kernel
  | 1, _ => decide +kernel
  | 2, _ => decide +kernel
  | 3, _ => decide +kernel
  | 4, _ => decide +kernel
  | 5, _ => decide +kernel
  | 6, _ => decide +kernel
  | k + 7, h => omega
theorem all_names : ∀ x ∈ ALL, nameB x = true ∧ x.length ≤ 12 := by decide +kernel
section
variable {xs : List Int} {most : Nat}
theorem known_all {x : Str} (h : x ∈ (gkL xs most).2) : x ∈ ALL := (known_sub xs most).subset (gk2 xs most ▸ h)
theorem lines_known {x : Str} : x ∈ linesOf (partsL xs most).is (partsL xs most).rs (partsL xs most).gs ↔ x ∈ (gkL xs most).2 := by
  rw [gk2]
  exact (lines_perm xs most).mem_iff
theorem gat_ps (h1 : 1 ≤ most) (h2 : most ≤ 4) {k : Nat} : ∀ p ∈ (gAt xs most k).ps, p ∈ k0 xs most ++ (List.range k).map gn := gate_ps (k0_ne xs most h1 h2 _)
theorem range_gn {j k : Nat} (h : k ≤ j) : ∀ x ∈ (List.range k).map gn, x ∈ (List.range j).map gn := ((range_sub h).map gn).subset
theorem gat_known (h1 : 1 ≤ most) (h2 : most ≤ 4) {k : Nat} (hk : k < nG xs) : ∀ p ∈ (gAt xs most k).ps, p ∈ (gkL xs most).2 := fun p hp => by
  rw [gk2]
  rcases List.mem_append.mp (gat_ps h1 h2 p hp) with z | z
  · exact List.mem_append_left _ z
  · exact List.mem_append_right _ (range_gn (Nat.le_of_lt hk) p z)
theorem gk2_ne (h1 : 1 ≤ most) (h2 : most ≤ 4) : (gkL xs most).2 ≠ [] := by
  rw [gk2]
  exact k0_ne xs most h1 h2 _
theorem out_known (h1 : 1 ≤ most) (h2 : most ≤ 4) (k : Nat) : outL xs (gkL xs most).2 k ∈ (gkL xs most).2 := by
  have hl : 0 < (gkL xs most).2.length := List.length_pos_iff.mpr (gk2_ne h1 h2)
  have hmn : 0 < mn4 (gkL xs most).2.length ∧ mn4 (gkL xs most).2.length ≤ ((gkL xs most).2.length : Int) := by
    unfold mn4
    split <;> omega
  have n1 := Int.emod_nonneg (r8 xs / (7 + (k : Int))) (show mn4 (gkL xs most).2.length ≠ 0 by omega)
  have n2 := Int.emod_lt_of_pos (r8 xs / (7 + (k : Int))) hmn.1
  exact List.mem_of_getElem? (itemD (l := (gkL xs most).2) "" (by omega))
theorem q_known {x : Str} (h : x ∈ qL xs) : x ∈ (gkL xs most).2 := by
  rw [gk2]
  exact List.mem_append_left _ (List.mem_append_right _ h)
theorem rs_mem {r : RegT} (h : r ∈ (partsL xs most).rs) : ∃ k, k < (qL xs).length ∧ r = regL xs most k := by
  obtain ⟨k, h1, h2⟩ := List.mem_map.mp (show r ∈ (List.range (qL xs).length).map (regL xs most) from h)
  exact ⟨k, List.mem_range.mp h1, h2.symm⟩
theorem os_mem {x : Str} (h : x ∈ (partsL xs most).os) : ∃ k, x = outL xs (gkL xs most).2 k := by
  obtain ⟨k, h1, h2⟩ := List.mem_map.mp (show x ∈ (List.range (1 + r8 xs % 3).toNat).map (outL xs (gkL xs most).2) from h)
  exact ⟨k, h2.symm⟩
theorem rs_known (h1 : 1 ≤ most) (h2 : most ≤ 4) {r : RegT} (h : r ∈ (partsL xs most).rs) : r.1 ∈ (gkL xs most).2 ∧ r.2 ∈ (gkL xs most).2 := by
  obtain ⟨k, hk, rfl⟩ := rs_mem h
  exact ⟨q_known (List.mem_of_getElem? (itemD (l := qL xs) "" hk)), pick_mem (gk2_ne h1 h2) _⟩
theorem gs_len : (partsL xs most).gs.length = nG xs := by
  have := (gs_perm xs most).length_eq
  rw [this]
  simp
theorem lines_len : (linesOf (partsL xs most).is (partsL xs most).rs (partsL xs most).gs).length ≤ 13 := by
  rw [(lines_perm xs most).length_eq]
  exact (known_sub xs most).length_le
theorem parts_ok (h1 : 1 ≤ most) (h2 : most ≤ 4) : (partsL xs most).ok := by
  refine ⟨?_, ?_, ?_, ?_, fun g hg => ?_⟩
  · have := (in_pos xs most h1 h2).2
    show (inL xs most).length ≤ 1000
    omega
  · have := q_le xs
    show ((List.range (qL xs).length).map (regL xs most)).length ≤ 1000
    simp
    omega
  · rw [gs_len]
    have := nG_le xs
    omega
  · show ((List.range (1 + r8 xs % 3).toNat).map (outL xs (gkL xs most).2)).length ≤ 1000
    simp
    omega
  · obtain ⟨k, _, rfl⟩ := gs_mem.mp hg
    exact (gate_form _ _ _).2.2
theorem src_k0 : srcOf (partsL xs most).is (partsL xs most).rs = k0 xs most := by
  unfold srcOf
  rw [rs1]
  rfl
theorem law_uses (h1 : 1 ≤ most) (h2 : most ≤ 4) : ∀ y ∈ usesOf (partsL xs most), y ∈ (gkL xs most).2 := by
  intro y hy
  rcases List.mem_append.mp hy with hy | hy
  · rcases List.mem_append.mp hy with hy | hy
    · obtain ⟨g, hg, hp⟩ := List.mem_flatMap.mp hy
      obtain ⟨k, hk, rfl⟩ := gs_mem.mp hg
      exact gat_known h1 h2 hk y hp
    · obtain ⟨r, hr, rfl⟩ := List.mem_map.mp hy
      exact (rs_known h1 h2 hr).2
  · obtain ⟨k, rfl⟩ := os_mem hy
    exact out_known h1 h2 k
theorem str_ok {x : Str} (h : x ∈ (gkL xs most).2) : isName (.str x) = true ∧ okS (.str x) = true := by
  obtain ⟨a, b⟩ := all_names x (known_all h)
  exact ⟨a, decide_eq_true (by omega)⟩
end
end
end CC
set_option maxHeartbeats 400000
namespace CC
open PySem PySem.Spec PyProof.Rows L2 Qw
open Evl hiding ea_cons
open Pw (Dt Rp RpL Wk R2d R1d RLd RLn Kq KqL truD flatD fl py pyL rangeD charsD spX2 Xm Xm0 tyD isI isB isS isTp isL rl_isInt rl_isBool rl_isStr rl_isTup rl_isList rl_int rl_max2 rl_min2 rl_len rl_lenT rl_tup rl_tupT rl_lenS rl_all rl_any rn_list rn_listT r2_I0 r2_B0 r2_eqI r2_neI r2_eqS r2_neS r2_eq r2_ne r2_I r2_inS r2_niS r2_in r2_inT r2_ixL r2_ixT r2_ixS r2_addS r2_eqD r2_neD r2_ixM r1_U ixN_at itemD cr_int cr_min2 cr_max2 cr_list cr_tuple cr_len pe_globI pe_globS pe_globR pe_tyname rTupS rInt1 rMin2)
local macro_rules | `(tactic| walk_at "side") => `(tactic| first
  | decide | omega | assumption | (show (0 : Int) < _; omega) | exact (show CDiv _ _ from ⟨by omega, by omega⟩) | exact (show CMul _ _ from Or.inr ⟨by omega, by omega⟩) | exact (show CMul _ _ from Or.inl ⟨by omega, by omega⟩) | exact (show CPow _ _ from ⟨by decide, by decide, by decide⟩))
local macro_rules | `(tactic| walk_at "op") => `(tactic| first
  | exact r2_I0 | exact r2_B0 | exact r2_eqI | exact r2_neI | exact r2_eqS | exact r2_neS
  | exact r2_eq rfl rfl rfl | exact r2_ne rfl rfl rfl
  | (refine' r2_I ?_; walk_at "side") | exact r2_inS | exact r2_niS)
local macro_rules | `(tactic| walk_at "rl") => `(tactic| first
  | exact rl_int | exact rl_max2 | exact rl_min2 | exact rl_len | exact rl_lenT | exact rl_isInt (by first | rfl | assumption) | exact rl_isBool (by first | rfl | assumption) | exact rl_isStr (by first | rfl | assumption) | exact rl_isTup (by first | rfl | assumption) | exact rl_isList (by first | rfl | assumption) | exact rl_tup | exact rl_tupT | (refine' rl_lenS ?_; walk_at "side"))
local macro_rules | `(tactic| walk_at "ap") => `(tactic| first
  | exact ap_nil
  | (refine' ap_cons ?eah ?eat; (case eah => walk_at "ep"); (case eat => walk_at "ap")))
local macro_rules | `(tactic| walk_at "ep") => `(tactic| first
  | exact ep_int | exact ep_bl | exact ep_str | exact ep_non | exact ep_ty | exact ep_var
  | (refine' ep_op ?eva ?evb ?evc; (case eva => walk_at "ep"); (case evb => walk_at "ep"); (case evc => walk_at "op"))
  | (refine' ep_cb ?evd ?eve; (case evd => walk_at "ap"); (case eve => walk_at "rl"))
  | (refine' ep_un ?evf r1_U; (case evf => walk_at "ep"))
  | (refine' ep_tup ?evg ?evi; (case evg => walk_at "ap"); (case evi => exact Nat.le_of_ble_eq_true rfl))
  | (refine' ep_lst ?evh ?evj; (case evh => walk_at "ap"); (case evj => exact Nat.le_of_ble_eq_true rfl))
  | assumption)
local macro_rules | `(tactic| walk_at "ee") => `(tactic| (refine' ee_p ?eep; (case eep => walk_at "ep")))
local macro_rules | `(tactic| walk_at "te") => `(tactic| (refine' te_p ?tep; (case tep => walk_at "tp")))
local macro_rules | `(tactic| walk_at "tp") => `(tactic| first
  | (refine' tp_test ?tea; (case tea => walk_at "ep"))
  | (refine' tp_B ?teb; (case teb => walk_at "ep"))
  | (refine' tp_not ?tec; (case tec => walk_at "tp"))
  | (refine' tp_or ?ted ?tee; (case ted => walk_at "tp"); (case tee => intro _; walk_at "tp"))
  | (refine' tp_and ?tef ?teg; (case tef => walk_at "tp"); (case teg => intro _; walk_at "tp"))
  | assumption)
section
variable {P : Program} {w : World} {K : PySem.W.Frag} {mg : Str → Option Value} {base : Heap}
open Mw
theorem spI_imp {C : Addr} {R R' : List Dt → Ri → Prop} (h : ∀ ds r, R' ds r → R ds r) (vs : List V) (H : Hp) (Q : VK) (E : XK) (q : spI P w K C R' vs H Q E) : spI P w K C R vs H Q E := by
  obtain ⟨F, p, dx, vs', ds, r, e, h1, h2, h3, h4, h5, h6⟩ := q
  exact ⟨F, p, dx, vs', ds, r, e, h1, h2, h3, h4, h ds r h5, h6⟩
theorem spR_imp {R R' : List Dt → Rs → Prop} (h : ∀ ds r, R' ds r → R ds r) (vs : List V) (H : Hp) (Q : VK) (E : XK) (q : spR P w K R' vs H Q E) : spR P w K R vs H Q E := by
  obtain ⟨F, ds, r, h1, h2, h3, h4⟩ := q
  exact ⟨F, ds, r, h1, h2, h ds r h3, h4⟩
theorem fnOk_imp {k : Nat} {f : Addr} {fd : FuncData} {ps : List Str} {sp sp' : Sp} (F : FnOk P w K mg base (L2.CX P w) k f fd ps sp) (h : ∀ vs H Q E, sp' vs H Q E → sp vs H Q E) : FnOk P w K mg base (L2.CX P w) k f fd ps sp' :=
  ⟨fun vs H Q E q => F.len vs H Q E (h vs H Q E q), fun A outer s H args us vs Q E hr he hb hv q => F.run A outer s H args us vs Q E hr he hb hv (h vs H Q E q)⟩
theorem ix_imp {k : Nat} {C : Addr} {x : Str} {ps : List Str} {R R' : List Dt → Ri → Prop} (I : Ix P w K mg base k C x ps (spI P w K C R)) (h : ∀ ds r, R' ds r → R ds r) : Ix P w K mg base k C x ps (spI P w K C R') := by
  obtain ⟨f, fd, h1, h2, h3, h4⟩ := I
  exact ⟨f, fd, h1, h2, h3, fnOk_imp h4 (spI_imp h)⟩
theorem mx_imp {k : Nat} {C : Addr} {m : Str} {ps : List Str} {R R' : List Dt → Rs → Prop} (M : Mx P w K mg base k C m ps (spR P w K R)) (h : ∀ ds r, R' ds r → R ds r) : Mx P w K mg base k C m ps (spR P w K R') := by
  obtain ⟨f, fd, h1, h2, h3⟩ := M
  exact ⟨f, fd, h1, h2, fnOk_imp h3 (spR_imp h)⟩
abbrev CV := Cp × List Gt
abbrev eCircuit (K : PySem.W.Frag) : CV → Dt := fun p => .obj (He.ga K "Circuit") CF (circE p.1 p.2)
def sq {α : Type} : Bool → (α → Dt) → List α → Dt
  | true, e, xs => eT e xs
  | false, e, xs => eL e xs
theorem sq_of {α : Type} {e : α → Dt} {xs : List α} : ∀ b, seqOf (sq b e xs) (xs.map e)
  | true => .inl rfl
  | false => .inr rfl
def badE (reason name : Str) : Exn := ⟨"BadCircuit", ["name", "reason"], [.str name, .str reason]⟩
def order1 (c : Cp) : R CV := match order (srcOf c.is c.rs) c.gs with
  | .ok l => .ok (c, l.2)
  | .error x => .ex (badE "loop" x)
def size1 (c : Cp) : R CV := if (linesOf c.is c.rs c.gs).length ≤ 400 ∧ (srcOf c.is c.rs).length ≤ 40 then order1 c else .ex (badE "size" "")
def known1 (c : Cp) : R CV := match (usesOf c).find? fun y => !decide (y ∈ linesOf c.is c.rs c.gs) with
  | some x => .ex (badE "unknown" x)
  | none => size1 c
def twice1 (c : Cp) : R CV := match dupOf [] (linesOf c.is c.rs c.gs) with
  | some x => .ex (badE "twice" x)
  | none => known1 c
def form1 (c : Cp) : Bool := formOk (c.is.map .str) (c.rs.map regD) (c.gs.map Gt.d) (c.os.map .str)
def small1 (c : Cp) : Bool := (c.is.map Dt.str).all okS && ((c.rs.map regD).all okR && ((c.gs.map Gt.d).all okG && (c.os.map Dt.str).all okS))
def m_Circuit_init (is : List Str) (rs : List (Str × Str)) (gs : List Gt) (os : List Str) : R CV :=
  R.need ((is.length ≤ 1000 ∧ rs.length ≤ 1000 ∧ gs.length ≤ 1000 ∧ os.length ≤ 1000) ∧ small1 ⟨is, rs, gs, os⟩ = true) (if form1 ⟨is, rs, gs, os⟩ = true then R.need (∀ g ∈ gs, g.ps.length ≤ 4) (twice1 ⟨is, rs, gs, os⟩) else .ex (badE "form" ""))
abbrev RM_Circuit_init (K : PySem.W.Frag) (b1 b2 b3 b4 : Bool) : List Dt → Ri → Prop := RI K CF (fun (a_ : List Str × List (Str × Str) × List Gt × List Str × Unit) => [sq b1 eS a_.1, sq b2 (eP2 eS eS) a_.2.1, sq b3 Gt.d a_.2.2.1, sq b4 eS a_.2.2.2.1]) (fun a_ => m_Circuit_init a_.1 a_.2.1 a_.2.2.1 a_.2.2.2.1) (fun p => circE p.1 p.2)
theorem init_got (c : Cp) (r : Ri) (h : GotI K CF (twice1 c) (fun p => circE p.1 p.2) r) : r = initR K c := by
  unfold twice1 at h
  unfold initR
  cases e : dupOf [] (linesOf c.is c.rs c.gs) with
  | some x => rw [e] at h; exact h
  | none =>
    rw [e] at h
    show r = orI _ _ _
    unfold known1 at h
    cases e2 : (usesOf c).find? fun y => !decide (y ∈ linesOf c.is c.rs c.gs) with
    | some x => rw [e2] at h; exact h
    | none =>
      rw [e2] at h
      show r = sizeI K c
      unfold sizeI
      unfold size1 at h
      split
      · rename_i hs
        rw [if_pos hs] at h
        unfold order1 at h
        cases e3 : order (srcOf c.is c.rs) c.gs with
        | ok l => rw [e3] at h; exact h
        | error x => rw [e3] at h; exact h
      · rename_i hs
        rw [if_neg hs] at h
        exact h
theorem ri_Circuit (b1 b2 b3 b4 : Bool) (ds : List Dt) (r : Ri) (h : RM_Circuit_init K b1 b2 b3 b4 ds r) : R_Circuit_init K ds r := by
  obtain ⟨⟨is, rs, gs, os, _⟩, rfl, h⟩ := h
  simp only at h
  unfold m_Circuit_init R.need at h
  split at h
  · rename_i hc
    obtain ⟨hl, hs⟩ := hc
    unfold small1 at hs
    simp only [Bool.and_eq_true] at hs
    refine ⟨_, _, _, _, is.map .str, rs.map regD, gs.map Gt.d, os.map .str, rfl, ⟨sq_of b1, sq_of b2, sq_of b3, sq_of b4⟩, ⟨by simpa using hl.1, by simpa using hl.2.1, by simpa using hl.2.2.1, by simpa using hl.2.2.2⟩, ⟨hs.1, hs.2.1, hs.2.2.1, hs.2.2.2⟩, ?_⟩
    split at h
    · rename_i hf
      split at h
      · rename_i hp
        exact .inr ⟨hf, ⟨is, rs, gs, os⟩, rfl, rfl, rfl, rfl, ⟨hl.1, hl.2.1, hl.2.2.1, hl.2.2.2, hp⟩, init_got _ r h⟩
      · exact h.elim
    · rename_i hf
      exact .inl ⟨by simpa [form1] using hf, h⟩
  · exact h.elim
end
end CC
set_option maxHeartbeats 400000
namespace CC
open PySem PySem.Spec PyProof.Rows L2 Qw
open Evl hiding ea_cons
open Pw (Dt Rp RpL Wk R2d R1d RLd RLn Kq KqL truD flatD fl py pyL rangeD charsD spX2 Xm Xm0 tyD isI isB isS isTp isL rl_isInt rl_isBool rl_isStr rl_isTup rl_isList rl_int rl_max2 rl_min2 rl_len rl_lenT rl_tup rl_tupT rl_lenS rl_all rl_any rn_list rn_listT r2_I0 r2_B0 r2_eqI r2_neI r2_eqS r2_neS r2_eq r2_ne r2_I r2_inS r2_niS r2_in r2_inT r2_ixL r2_ixT r2_ixS r2_addS r2_eqD r2_neD r2_ixM r1_U ixN_at itemD cr_int cr_min2 cr_max2 cr_list cr_tuple cr_len pe_globI pe_globS pe_globR pe_tyname rTupS rInt1 rMin2)
local macro_rules | `(tactic| walk_at "side") => `(tactic| first
  | decide | omega | assumption | (show (0 : Int) < _; omega) | exact (show CDiv _ _ from ⟨by omega, by omega⟩) | exact (show CMul _ _ from Or.inr ⟨by omega, by omega⟩) | exact (show CMul _ _ from Or.inl ⟨by omega, by omega⟩) | exact (show CPow _ _ from ⟨by decide, by decide, by decide⟩))
local macro_rules | `(tactic| walk_at "op") => `(tactic| first
  | exact r2_I0 | exact r2_B0 | exact r2_eqI | exact r2_neI | exact r2_eqS | exact r2_neS
  | exact r2_eq rfl rfl rfl | exact r2_ne rfl rfl rfl
  | (refine' r2_I ?_; walk_at "side") | exact r2_inS | exact r2_niS)
local macro_rules | `(tactic| walk_at "rl") => `(tactic| first
  | exact rl_int | exact rl_max2 | exact rl_min2 | exact rl_len | exact rl_lenT | exact rl_isInt (by first | rfl | assumption) | exact rl_isBool (by first | rfl | assumption) | exact rl_isStr (by first | rfl | assumption) | exact rl_isTup (by first | rfl | assumption) | exact rl_isList (by first | rfl | assumption) | exact rl_tup | exact rl_tupT | (refine' rl_lenS ?_; walk_at "side"))
local macro_rules | `(tactic| walk_at "ap") => `(tactic| first
  | exact ap_nil
  | (refine' ap_cons ?eah ?eat; (case eah => walk_at "ep"); (case eat => walk_at "ap")))
local macro_rules | `(tactic| walk_at "ep") => `(tactic| first
  | exact ep_int | exact ep_bl | exact ep_str | exact ep_non | exact ep_ty | exact ep_var
  | (refine' ep_op ?eva ?evb ?evc; (case eva => walk_at "ep"); (case evb => walk_at "ep"); (case evc => walk_at "op"))
  | (refine' ep_cb ?evd ?eve; (case evd => walk_at "ap"); (case eve => walk_at "rl"))
  | (refine' ep_un ?evf r1_U; (case evf => walk_at "ep"))
  | (refine' ep_tup ?evg ?evi; (case evg => walk_at "ap"); (case evi => exact Nat.le_of_ble_eq_true rfl))
  | (refine' ep_lst ?evh ?evj; (case evh => walk_at "ap"); (case evj => exact Nat.le_of_ble_eq_true rfl))
  | assumption)
local macro_rules | `(tactic| walk_at "ee") => `(tactic| (refine' ee_p ?eep; (case eep => walk_at "ep")))
local macro_rules | `(tactic| walk_at "te") => `(tactic| (refine' te_p ?tep; (case tep => walk_at "tp")))
local macro_rules | `(tactic| walk_at "tp") => `(tactic| first
  | (refine' tp_test ?tea; (case tea => walk_at "ep"))
  | (refine' tp_B ?teb; (case teb => walk_at "ep"))
  | (refine' tp_not ?tec; (case tec => walk_at "tp"))
  | (refine' tp_or ?ted ?tee; (case ted => walk_at "tp"); (case tee => intro _; walk_at "tp"))
  | (refine' tp_and ?tef ?teg; (case tef => walk_at "tp"); (case teg => intro _; walk_at "tp"))
  | assumption)
section
variable {P : Program} {w : World} {K : PySem.W.Frag} {mg : Str → Option Value} {base : Heap}
open Mw
theorem hasp (c : Cp) (ord : List Gt) : HasP CF (circE c ord) c := ⟨rfl, rfl, rfl, rfl, by decide +kernel⟩
theorem fx_imp {k : Nat} {x : Str} {ps : List Str} {R R' : List Dt → Rs → Prop} (M : Fx P w K mg base k x ps (spR P w K R)) (h : ∀ ds r, R' ds r → R ds r) : Fx P w K mg base k x ps (spR P w K R') := by
  obtain ⟨f, fd, h1, h2, h3, h4⟩ := M
  exact ⟨f, fd, h1, h2, h3, fnOk_imp h4 (spR_imp h)⟩
instance (c : Cp) : Decidable c.ok := by unfold Cp.ok; infer_instance
theorem got_need {α : Type} {c : Prop} [Decidable c] {m : R α} {er : α → Rs} {r : Rs} (h : Got K (R.need c m) er r) : c ∧ Got K m er r := by
  unfold R.need at h
  split at h
  · exact ⟨by assumption, h⟩
  · exact h.elim
def m_Circuit_lines (p : CV) : R (List Str) := R.need p.1.ok (.ok (linesOf p.1.is p.1.rs p.1.gs))
def m_Circuit_sources (p : CV) : R (List Str) := R.need p.1.ok (.ok (srcOf p.1.is p.1.rs))
def m_Circuit_sinks (p : CV) : R (List Str) := R.need p.1.ok (.ok (sinkOf p.1.os p.1.rs))
def m_Circuit_above (p : CV) (x : Str) : R (List (Str × Bool)) := R.need p.1.ok (.ok ((aboveL p.1.gs x).map fun y => (y, true)))
def m_Circuit_parts (p : CV) : R (List Str × List (Str × Str) × List Gt × List Str) := R.need p.1.ok (.ok (p.1.is, p.1.rs, p.1.gs, p.1.os))
abbrev Z_Circuit_lines (K : PySem.W.Frag) := RF K (fun (a_ : CV × Unit) => [eCircuit K a_.1]) (fun a_ => m_Circuit_lines a_.1) (fun (b_ : List Str) => .o (oL eS b_))
abbrev Z_Circuit_sources (K : PySem.W.Frag) := RF K (fun (a_ : CV × Unit) => [eCircuit K a_.1]) (fun a_ => m_Circuit_sources a_.1) (fun (b_ : List Str) => .o (oL eS b_))
abbrev Z_Circuit_sinks (K : PySem.W.Frag) := RF K (fun (a_ : CV × Unit) => [eCircuit K a_.1]) (fun a_ => m_Circuit_sinks a_.1) (fun (b_ : List Str) => .o (oL eS b_))
abbrev Z_Circuit_above (K : PySem.W.Frag) := RF K (fun (a_ : CV × Str × Unit) => [eCircuit K a_.1, eS a_.2.1]) (fun a_ => m_Circuit_above a_.1 a_.2.1) (fun (b_ : List (Str × Bool)) => .o (oK eB b_))
abbrev Z_Circuit_parts (K : PySem.W.Frag) := RF K (fun (a_ : CV × Unit) => [eCircuit K a_.1]) (fun a_ => m_Circuit_parts a_.1) (fun (b_ : List Str × List (Str × Str) × List Gt × List Str) => .d (eP4 (eT eS) (eT (eP2 eS eS)) (eT Gt.d) (eT eS) b_))
theorem z_Circuit_lines (ds : List Dt) (r : Rs) (h : Z_Circuit_lines K ds r) : R_Circuit_lines K ds r := by
  obtain ⟨⟨p, _⟩, rfl, h⟩ := h
  obtain ⟨ok, h⟩ := got_need h
  exact ⟨CF, circE p.1 p.2, p.1, rfl, hasp p.1 p.2, ok, h⟩
theorem z_Circuit_sources (ds : List Dt) (r : Rs) (h : Z_Circuit_sources K ds r) : R_Circuit_sources K ds r := by
  obtain ⟨⟨p, _⟩, rfl, h⟩ := h
  obtain ⟨ok, h⟩ := got_need h
  exact ⟨CF, circE p.1 p.2, p.1, rfl, hasp p.1 p.2, ok, h⟩
theorem z_Circuit_sinks (ds : List Dt) (r : Rs) (h : Z_Circuit_sinks K ds r) : R_Circuit_sinks K ds r := by
  obtain ⟨⟨p, _⟩, rfl, h⟩ := h
  obtain ⟨ok, h⟩ := got_need h
  exact ⟨CF, circE p.1 p.2, p.1, rfl, hasp p.1 p.2, ok, h⟩
theorem z_Circuit_parts (ds : List Dt) (r : Rs) (h : Z_Circuit_parts K ds r) : R_Circuit_parts K ds r := by
  obtain ⟨⟨p, _⟩, rfl, h⟩ := h
  obtain ⟨ok, h⟩ := got_need h
  exact ⟨CF, circE p.1 p.2, p.1, rfl, hasp p.1 p.2, ok, h⟩
theorem kk_kn (xs : List Str) : kk eB (xs.map fun y => (y, true)) = kn xs := by
  unfold kk kn
  rw [List.map_map]
  rfl
theorem z_Circuit_above (ds : List Dt) (r : Rs) (h : Z_Circuit_above K ds r) : R_Circuit_above K ds r := by
  obtain ⟨⟨p, x, _⟩, rfl, h⟩ := h
  obtain ⟨ok, h⟩ := got_need h
  have h : r = .o (Ow.dk (kk eB ((aboveL p.1.gs x).map fun y => (y, true)))) := h
  rw [kk_kn] at h
  exact ⟨p.1, p.2, x, rfl, ok, h⟩
abbrev G_KINDS : List Str := KIN
def m_law_parts (xs : List Int) (most : Int) : R (List Str × List (Str × Str) × List Gt × List Str) := R.need (1 ≤ most ∧ most ≤ 4) (.ok ((partsL xs most.toNat).is, (partsL xs most.toNat).rs, (partsL xs most.toNat).gs, (partsL xs most.toNat).os))
abbrev Z_law_parts (K : PySem.W.Frag) := RF K (fun (a_ : List Int × Int × Unit) => [eL eI a_.1, eI a_.2.1]) (fun a_ => m_law_parts a_.1 a_.2.1) (fun (b_ : List Str × List (Str × Str) × List Gt × List Str) => .d (eP4 (eL eS) (eL (eP2 eS eS)) (eL Gt.d) (eL eS) b_))
theorem z_law_parts (ds : List Dt) (r : Rs) (h : Z_law_parts K ds r) : R_law_parts ds r := by
  obtain ⟨⟨xs, most, _⟩, rfl, h⟩ := h
  obtain ⟨ok, h⟩ := got_need h
  have ok : 1 ≤ most ∧ most ≤ 4 := ok
  obtain ⟨most, rfl⟩ : ∃ n : Nat, most = (n : Int) := ⟨most.toNat, by omega⟩
  exact ⟨xs, most, rfl, by omega, by omega, h⟩
/-- the gates by their lines -/
def gofL (gs : List Gt) : List (Str × Gt) := gs.map fun g => (g.l, g)
theorem gof_eq (gs : List Gt) : dk (gmap gs) = eK Gt.d (gofL gs) := by
  have : gmap gs = kk Gt.d (gofL gs) := by
    unfold gmap kk gofL
    rw [List.map_map]
    rfl
  rw [this]
end
end CC
set_option maxHeartbeats 1000000
namespace CC
open PySem PySem.Spec PyProof.Rows L2 Qw Mw RZ
open Evl hiding ea_cons
open Pw (Dt Rp RpL Wk R2d R1d RLd RLn Kq KqL spX2 Xm Xm0 cr_int cr_min2 cr_max2 cr_list cr_tuple rTupS cr_len pe_globI pe_globS pe_globR pe_tyname)
section
variable {P : Program} {w : World} {K : PySem.W.Frag} {mg : Str → Option Value} {base : Heap}
open Mw
def okGt (g : Gt) : Bool := okStr g.l && (okStr g.k && g.ps.all okStr)
theorem pyS_gt : PyS 2 Gt.d okGt := pyS_map (e := eP3 eS eS (eT eS)) (f := Gt.d) (fun g : Gt => (g.l, g.k, g.ps)) (fun a b h => by
  obtain ⟨a1, a2, a3⟩ := a
  obtain ⟨b1, b2, b3⟩ := b
  simp only [Prod.mk.injEq] at h
  obtain ⟨rfl, rfl, rfl⟩ := h
  rfl) (fun _ => rfl) (pyS_p3 pyS_str pyS_str (pyS_tup pyS_str))
def b_law_above (gates_0 : (List Gt)) (line_0 : Str) : R (Ctl Unit Unit (List Str)) := (R.bind (R.ok ([line_0] : (List Str))) fun found_1 => (R.bind (R.bind (R.ok ((gates_0.length : Int), ())) fun t_2 => R.need (-100000 ≤ t_2.1 ∧ t_2.1 ≤ 100000) (R.ok (rangeI 0 (t_2.1).toNat))) fun l_17 => R.bindC (R.forR l_17 found_1 (fun (v_3 : (List Str)) (turn_4 : Int) => (R.bind (R.ok gates_0) fun l_14 => R.bindC (R.forR l_14 v_3 (fun (v_5 : (List Str)) (gate_6 : Gt) => (R.bindC (R.bind (R.ok (decide (gate_6.l ∈ v_5))) fun c_7 => if c_7 = true then (R.bind (R.bind (R.bind (R.ok gate_6.ps) fun l_9 => (R.lcR l_9 (fun pin_8 => (R.ok (!(decide (pin_8 ∈ v_5))))) (fun pin_8 => (R.ok pin_8))).nox) fun t_10 => (catR v_5 t_10)) fun found_11 => (R.ok (Ctl.nx found_11))) else (R.ok (Ctl.nx v_5))) fun (j_12 : (List Str)) => (R.ok (Ctl.nx j_12))))) (fun (w_13 : (List Str)) => (R.ok (Ctl.nx w_13)))))) (fun (w_15 : (List Str)) => (R.bind (R.ok w_15) fun t_16 => R.ok (Ctl.rt t_16)))))
def m_law_above (gates_0 : (List Gt)) (line_0 : Str) : R (List Str) := (b_law_above gates_0 line_0).fin
abbrev R_law_above (K : PySem.W.Frag) : List Dt → Rs → Prop := RF K (fun (a_ : (List Gt) × Str × Unit) => [(eL Gt.d) a_.1, eS a_.2.1]) (fun a_ => m_law_above a_.1 a_.2.1) (fun (b_ : (List Str)) => .d ((eL eS) b_))
theorem l_law_above (K : PySem.W.Frag) (ds : List Dt) (r : Rs) (h : R_law_above K ds r) : ds.length = 2 := by
  obtain ⟨_, rfl, _⟩ := h
  rfl
abbrev N_law_above : List Str := ["gates", "line", "found", "turn", "gate", "pin"]
theorem sc_law_above : FnScope N_law_above ["gates", "line"] (defScope s_law_above) := ⟨rfl, rfl, rfl, by decide +kernel, rfl, by decide +kernel, by decide +kernel⟩
theorem k_law_above (T : Txt K mg) (D : Dx K mg "_law_above" ["gates", "line"] s_law_above)  : Fx P w K mg base 1 "_law_above" ["gates", "line"] (spR P w K (R_law_above K)) := by
  refine Fx.of D sc_law_above (l_law_above K) fun f cdv A outer s H E hr => ?_
  refine ⟨_, (pss_cons (pset (i := 2) sc_law_above.nd (pe_lst (pa_cons (pv 1) pa_nil)))
      (pss_cons (ps_for PassesOwn.never rfl (pi_range1 rfl T.f_range (pa_cons (pe_callB cr_len (by rfl) T.f_len PySem.boot_len (pa_cons (pv 0) pa_nil)) pa_nil)) (pgn (i := 3) sc_law_above.nd)
      (pss_one (ps_for PassesOwn.never rfl (pi_list (pv 0)) (pgn (i := 4) sc_law_above.nd)
      (pss_one (ps_if (pt_cmpR op_in_seq (pe_ix ix_tup (pv 4) pe_int (fun _ _ => rfl)) (pv 2) rfl) (pss_one (pset (i := 2) sc_law_above.nd (pe_op op_catS (pv 2) (pe_lc (own := [("pin", 5)]) (g := gName 5) rfl sc_law_above.nd (pi_tup (pe_ix ix_tup (pv 4) pe_int (fun _ _ => rfl))) (blkOk_by (N := N_law_above) (sc := defScope s_law_above) (by decide +kernel)) (fun _ _ _ _ _ => (pgn (i := 5) sc_law_above.nd)) (fun _ _ _ _ _ => (pts_one (pt_cmpR (show OpR _ _ (rIn K true) from op_notIn_seq) (pv 5) (pv 2) rfl))) (fun _ _ _ _ _ => (pv 5)))))) pss_nil)))))
      (pss_one (ps_ret (pv 2))))), ?_⟩
  rintro ds r ⟨⟨gates_0, line_0, _⟩, rfl, hr⟩
  exact does_d (eX := [.x, .x, .x, .x, .x, .x]) (d := (eL eS)) (eL := fun (_ : Unit) => []) (eN := fun (_ : Unit) => []) (show Sx P w K _ _ _ _ _ [.d ((eL Gt.d) gates_0), .d (eS line_0), .u, .u, .u, .u] (b_law_above gates_0 line_0) _ from (sx_asg (xp_v (ep_is (e := (eL eS) ([line_0] : (List Str))) (ep_lst (ap_cons ep_var ap_nil) (Nat.le_of_ble_eq_true rfl)) rfl)) (fun found_1 => (show Sx P w K _ _ _ _ _ [.d ((eL Gt.d) gates_0), .d (eS line_0), .d ((eL eS) found_1), .u, .u, .u] _ _ from (sx_for (eS := (fun (v_3 : (List Str)) => [.d ((eL Gt.d) gates_0), .d (eS line_0), .d ((eL eS) v_3), .x, .x, .u])) (v0 := found_1) outD_ok (xi_rng1 (n := fun (a_ : Int × Unit) => a_.1) (xa_v (ds := (fun (a_ : Int × Unit) => [eI a_.1])) (v := ((gates_0.length : Int), ())) (ap_cons (ep_cb (ap_cons ep_var ap_nil) rl_lenLm) ap_nil))) (Le.s (Le.s (Le.s (Le.x (Le.x (Le.s Le.nil)))))) (fun v_3 (turn_4 : Int) => ⟨_, ge_name, (show Sx P w K _ _ _ _ _ [.d ((eL Gt.d) gates_0), .d (eS line_0), .d ((eL eS) v_3), .d (eI turn_4), .x, .u] _ _ from (sx_last (sx_for (eS := (fun (v_5 : (List Str)) => [.d ((eL Gt.d) gates_0), .d (eS line_0), .d ((eL eS) v_5), .d (eI turn_4), .x, .u])) (v0 := v_3) outD_ok (xi_list (xp_v ep_var)) (Le.s (Le.s (Le.s (Le.s (Le.s (Le.s Le.nil)))))) (fun v_5 (gate_6 : Gt) => ⟨_, ge_name, (show Sx P w K _ _ _ _ _ [.d ((eL Gt.d) gates_0), .d (eS line_0), .d ((eL eS) v_5), .d (eI turn_4), .d (Gt.d gate_6), .u] _ _ from (sx_last (sx_ifj (eM := (fun (j_12 : (List Str)) => [.d ((eL Gt.d) gates_0), .d (eS line_0), .d ((eL eS) j_12), .d (eI turn_4), .d (Gt.d gate_6), .u])) (fun b => (outD_ok b).1) (xt_v (tp_test (ep_op (ep_op ep_var ep_int (r2_ixTn 0 rfl)) ep_var r2_inSL))) (sx_last (sx_asg (xp_opVM ep_var (xp_o (u := (oL eS)) (xo_lc (xi_tup (xp_v (ep_op ep_var ep_int (r2_ixTn 2 rfl)))) (fun pin_8 => ⟨_, gc_name, (xt_v (tp_test (ep_op ep_var ep_var r2_inSLn))), (xp_v ep_var)⟩)) (fun _ => rfl)) (fun _ => rm_catL)) (fun found_11 => (show Sx P w K _ _ _ _ _ [.d ((eL Gt.d) gates_0), .d (eS line_0), .d ((eL eS) found_11), .d (eI turn_4), .d (Gt.d gate_6), .u] _ _ from (sx_end (Le.s (Le.s (Le.s (Le.s (Le.s (Le.s Le.nil))))))))))) (sx_end (Le.s (Le.s (Le.s (Le.s (Le.s (Le.s Le.nil))))))) (fun j_12 => (sx_end (Le.s (Le.s (Le.s (Le.s (Le.x (Le.s Le.nil)))))))))))⟩) (fun w_13 => (show Sx P w K _ _ _ _ _ [.d ((eL Gt.d) gates_0), .d (eS line_0), .d ((eL eS) w_13), .d (eI turn_4), .x, .u] _ _ from (sx_end (Le.s (Le.s (Le.s (Le.x (Le.s (Le.s Le.nil))))))))))))⟩) (fun w_15 => (show Sx P w K _ _ _ _ _ [.d ((eL Gt.d) gates_0), .d (eS line_0), .d ((eL eS) w_15), .x, .x, .u] _ _ from (sx_last (sx_ret (xp_v ep_var) (fun _ => rfl)))))))))) hr
def b_law (script_0 : (List Int)) : R (Ctl Unit Unit Bool) := (R.bind (R.bind (R.ok (script_0, ((4 : Int), ()))) fun t_1 => (m_law_parts t_1.1 t_1.2.1).nox) fun p_2 => (R.bind (R.bind (R.bind (R.ok p_2.1) fun t_9 => R.bind (R.bind (R.ok p_2.2.1) fun t_7 => R.bind (R.bind (R.ok p_2.2.2.1) fun t_5 => R.bind (R.bind (R.ok p_2.2.2.2) fun t_3 => R.bind (R.ok ()) fun t_4 => R.ok (t_3, t_4)) fun t_6 => R.ok (t_5, t_6)) fun t_8 => R.ok (t_7, t_8)) fun t_10 => R.ok (t_9, t_10)) fun t_11 => (m_Circuit_init t_11.1 t_11.2.1 t_11.2.2.1 t_11.2.2.2.1).nox) fun circuit_12 => (R.bind (R.bind (R.bind (R.ok p_2.2.1) fun l_14 => (R.lcR l_14 (fun row_13 => (R.ok true)) (fun row_13 => (R.ok row_13.1))).nox) fun t_15 => (catR p_2.1 t_15)) fun sources_16 => (R.bind (R.bind (R.bind (R.ok p_2.2.2.1) fun l_18 => (R.lcR l_18 (fun gate_17 => (R.ok true)) (fun gate_17 => (R.ok gate_17.l))).nox) fun t_19 => (catR sources_16 t_19)) fun lines_20 => (R.bind (R.bind (R.bind (R.ok p_2.2.1) fun l_22 => (R.lcR l_22 (fun row_21 => (R.ok true)) (fun row_21 => (R.ok row_21.2))).nox) fun t_23 => (catR p_2.2.2.2 t_23)) fun sinks_24 => (R.bind (R.bind (R.bind (R.bind (R.bind (R.ok ()) fun t_34 => ((m_Circuit_lines circuit_12 )).nox) fun t_41 => R.bind (R.bind (R.bind (R.ok ()) fun t_35 => ((m_Circuit_sources circuit_12 )).nox) fun t_39 => R.bind (R.bind (R.bind (R.ok ()) fun t_36 => ((m_Circuit_sinks circuit_12 )).nox) fun t_37 => R.bind (R.ok ()) fun t_38 => R.ok (t_37, t_38)) fun t_40 => R.ok (t_39, t_40)) fun t_42 => R.ok (t_41, t_42)) fun t_43 => R.ok ([t_43.1, t_43.2.1, t_43.2.2.1] : (List (List Str)))) fun t_44 => (neSR (fun xs => xs.all (fun xs => xs.all okStr)) t_44 ([lines_20, sources_16, sinks_24] : (List (List Str))))) fun c_45 => if c_45 = true then (R.bind (R.ok false) fun t_46 => R.ok (Ctl.rt t_46)) else (R.bind (R.bind (R.bind (R.ok ()) fun t_47 => ((m_Circuit_lines circuit_12 )).nox) fun t_48 => R.need (t_48.length < 100000) (R.ok ())) fun _ => (R.bind (R.bind (R.bind (R.ok ()) fun t_49 => ((m_Circuit_sources circuit_12 )).nox) fun t_50 => R.need (t_50.length < 100000) (R.ok ())) fun _ => (R.bind (R.bind (R.bind (R.ok ()) fun t_51 => ((m_Circuit_sinks circuit_12 )).nox) fun t_52 => R.need (t_52.length < 100000) (R.ok ())) fun _ => (R.bind (R.bind (R.bind (R.bind (R.bind (R.ok ()) fun t_62 => ((m_Circuit_lines circuit_12 )).nox) fun t_69 => R.bind (R.bind (R.bind (R.ok ()) fun t_63 => ((m_Circuit_sources circuit_12 )).nox) fun t_67 => R.bind (R.bind (R.bind (R.ok ()) fun t_64 => ((m_Circuit_sinks circuit_12 )).nox) fun t_65 => R.bind (R.ok ()) fun t_66 => R.ok (t_65, t_66)) fun t_68 => R.ok (t_67, t_68)) fun t_70 => R.ok (t_69, t_70)) fun t_71 => R.ok ([t_71.1, t_71.2.1, t_71.2.2.1] : (List (List Str)))) fun t_72 => (neSR (fun xs => xs.all (fun xs => xs.all okStr)) t_72 ([lines_20, sources_16, sinks_24] : (List (List Str))))) fun c_73 => if c_73 = true then (R.bind (R.ok false) fun t_74 => R.ok (Ctl.rt t_74)) else (R.bind (R.ok ((p_2.1, p_2.2.1, p_2.2.2.1, p_2.2.2.2) : ((List Str) × (List (Str × Str)) × (List Gt) × (List Str)))) fun parts_75 => (R.bind (R.bind (R.bind (R.bind (R.ok ()) fun t_76 => ((m_Circuit_parts circuit_12 )).nox) fun t_77 => (neSR (fun x => (fun xs => xs.all okStr) x.1 && ((fun xs => xs.all (fun x => okStr x.1 && okStr x.2)) x.2.1 && ((fun xs => xs.all okGt) x.2.2.1 && (fun xs => xs.all okStr) x.2.2.2))) t_77 parts_75)) fun t_78 => if t_78 = true then R.ok true else (neSR (fun x => (fun xs => xs.all okStr) x.1 && ((fun xs => xs.all (fun x => okStr x.1 && okStr x.2)) x.2.1 && ((fun xs => xs.all okGt) x.2.2.1 && (fun xs => xs.all okStr) x.2.2.2))) ((circuit_12.1.is, circuit_12.1.rs, circuit_12.1.gs, circuit_12.1.os) : ((List Str) × (List (Str × Str)) × (List Gt) × (List Str))) parts_75)) fun c_79 => if c_79 = true then (R.bind (R.ok false) fun t_80 => R.ok (Ctl.rt t_80)) else (R.bind (R.ok sources_16) fun known_81 => (R.bind (R.ok circuit_12.2) fun l_124 => R.bindC (R.forR l_124 known_81 (fun (v_82 : (List Str)) (gate_83 : Gt) => (R.bind (R.bind (notInDR (Gt.d gate_83) ((eL Gt.d) p_2.2.2.1)) fun t_84 => if t_84 = true then R.ok true else (R.ok (decide (gate_83.l ∈ v_82)))) fun c_85 => if c_85 = true then (R.bind (R.ok false) fun t_86 => R.ok (Ctl.rt t_86)) else (R.bind (R.ok gate_83.ps) fun l_93 => R.bindC (R.forR l_93 () (fun (v_87 : Unit) (pin_88 : Str) => (R.bind (R.ok (!(decide (pin_88 ∈ v_82)))) fun c_89 => if c_89 = true then (R.bind (R.ok false) fun t_90 => R.ok (Ctl.rt t_90)) else (R.ok (Ctl.nx ()))))) (fun (w_91 : Unit) => (R.bind (R.ok gate_83.l) fun t_92 => R.need ((List.map eS v_82).length < 100000) (R.ok (Ctl.nx (v_82 ++ [t_92]))))))))) (fun (w_94 : (List Str)) => (R.bind (R.bind (R.bind (R.bind (R.ok w_94) fun t_95 => sortSR t_95) fun t_97 => R.bind (R.bind (R.ok lines_20) fun t_96 => sortSR t_96) fun t_98 => (neSR (fun xs => xs.all okStr) t_97 t_98)) fun t_99 => if t_99 = true then R.ok true else (R.ok (!(decide (((gofL circuit_12.1.gs).length : Int) = (p_2.2.2.1.length : Int)))))) fun c_100 => if c_100 = true then (R.bind (R.ok false) fun t_101 => R.ok (Ctl.rt t_101)) else (R.bind (R.ok p_2.2.2.1) fun l_123 => R.bindC (R.forR l_123 () (fun (v_102 : Unit) (gate_103 : Gt) => (R.bind (R.bind (R.bind (R.ok (gofL circuit_12.1.gs)) fun t_104 => R.bind (R.ok gate_103.l) fun t_105 => getR t_104 t_105) fun t_106 => (neSR okGt t_106 gate_103)) fun c_107 => if c_107 = true then (R.bind (R.ok false) fun t_108 => R.ok (Ctl.rt t_108)) else (R.ok (Ctl.nx ()))))) (fun (w_109 : Unit) => (R.bind (R.ok lines_20) fun l_122 => R.bindC (R.forR l_122 () (fun (v_110 : Unit) (line_111 : Str) => (R.bind (R.bind (R.bind (R.bind (R.ok (line_111, ())) fun t_112 => ((m_Circuit_above circuit_12 t_112.1)).nox) fun t_113 => sortSR (List.map Prod.fst t_113)) fun t_116 => R.bind (R.bind (R.bind (R.ok (p_2.2.2.1, (line_111, ()))) fun t_114 => (m_law_above t_114.1 t_114.2.1).nox) fun t_115 => sortTR t_115) fun t_117 => (neSR (fun xs => xs.all okStr) t_116 t_117)) fun c_118 => if c_118 = true then (R.bind (R.ok false) fun t_119 => R.ok (Ctl.rt t_119)) else (R.ok (Ctl.nx ()))))) (fun (w_120 : Unit) => (R.bind (eqSR (fun xs => xs.all okStr) (G_KINDS : List Str) ([("and" : Str), ("or" : Str), ("nand" : Str), ("nor" : Str), ("xor" : Str), ("xnor" : Str), ("not" : Str), ("buf" : Str), ("low" : Str), ("high" : Str)] : (List Str))) fun t_121 => R.ok (Ctl.rt t_121))))))))))))))))))))))
def m_law (script_0 : (List Int)) : R Bool := (b_law script_0).fin
abbrev R_law (K : PySem.W.Frag) : List Dt → Rs → Prop := RF K (fun (a_ : (List Int) × Unit) => [(eL eI) a_.1]) (fun a_ => m_law a_.1) (fun (b_ : Bool) => .d (eB b_))
theorem l_law (K : PySem.W.Frag) (ds : List Dt) (r : Rs) (h : R_law K ds r) : ds.length = 1 := by
  obtain ⟨_, rfl, _⟩ := h
  rfl
abbrev N_law : List Str := ["script", "inputs", "registers", "gates", "outputs", "circuit", "sources", "row", "lines", "gate", "sinks", "parts", "known", "pin", "line"]
theorem sc_law : FnScope N_law ["script"] (defScope s_law) := ⟨rfl, rfl, rfl, by decide +kernel, rfl, by decide +kernel, by decide +kernel⟩
theorem k_law (T : Txt K mg) (D : Dx K mg "law" ["script"] s_law)  (G__law_parts : Fx P w K mg base 2 "_law_parts" ["script", "most"] (spR P w K (Z_law_parts K))) (I_Circuit : Ix P w K mg base 5 (He.ga K "Circuit") "Circuit" ["self", "inputs", "registers", "gates", "outputs"] (spI P w K (He.ga K "Circuit") (RM_Circuit_init K true false true false))) (M_Circuit_sinks : Mx P w K mg base 1 (He.ga K "Circuit") "sinks" ["self"] (spR P w K (Z_Circuit_sinks K))) (M_Circuit_sources : Mx P w K mg base 1 (He.ga K "Circuit") "sources" ["self"] (spR P w K (Z_Circuit_sources K))) (M_Circuit_lines : Mx P w K mg base 2 (He.ga K "Circuit") "lines" ["self"] (spR P w K (Z_Circuit_lines K))) (M_Circuit_parts : Mx P w K mg base 1 (He.ga K "Circuit") "parts" ["self"] (spR P w K (Z_Circuit_parts K))) (M_Circuit_above : Mx P w K mg base 1 (He.ga K "Circuit") "above" ["self", "line"] (spR P w K (Z_Circuit_above K))) (G__law_above : Fx P w K mg base 1 "_law_above" ["gates", "line"] (spR P w K (R_law_above K))) : FxL P w K mg base 7 "law" ["script"] (spR P w K (R_law K)) s_law := by
  refine FxL.of D sc_law (l_law K) fun f cdv A outer s H E hr => ?_
  have hu : (A.deeper (envOfC "law" (defScope s_law) s.heap.objs.size f cdv)).units + 64 < cLine := hr.units
  have hu1 : (A.deeper (envOfC "law" (defScope s_law) s.heap.objs.size f cdv)).units + 1 < cLine := Nat.lt_of_le_of_lt (Nat.add_le_add_left (by decide) _) hu
  have hu65 := hu65_of hr
  refine ⟨_, (pss_cons (ps_asg (pe_fx G__law_parts (hr.mono (by decide)) (pa_cons (pv 0) (pa_cons pe_int pa_nil))) (pg_tup rfl (pgs_cons (pgn (i := 1) sc_law.nd) (pgs_cons (pgn (i := 2) sc_law.nd) (pgs_cons (pgn (i := 3) sc_law.nd) (pgs_cons (pgn (i := 4) sc_law.nd) pgs_nil))))))
      (pss_cons (pset (i := 5) sc_law.nd (pe_ix2 I_Circuit (hr.mono (by decide)) (pa_cons (pe_callTy cr_tuple (by rfl) T.f_tuple (by decide +kernel) (pa_cons (pv 1) pa_nil)) (pa_cons (pe_callTy cr_list (by rfl) T.f_list (by decide +kernel) (pa_cons (pv 2) pa_nil)) (pa_cons (pe_callTy cr_tuple (by rfl) T.f_tuple (by decide +kernel) (pa_cons (pv 3) pa_nil)) (pa_cons (pe_callTy cr_list (by rfl) T.f_list (by decide +kernel) (pa_cons (pv 4) pa_nil)) pa_nil))))))
      (pss_cons (pset (i := 6) sc_law.nd (pe_op op_catS (pv 1) (pe_lc (own := [("row", 7)]) (g := gName 7) (tt := tYes) rfl sc_law.nd (pi_list (pv 2)) (blkOk_by (N := N_law) (sc := defScope s_law) (by decide +kernel)) (fun _ _ _ _ _ => (pgn (i := 7) sc_law.nd)) (fun _ _ _ _ _ => pts_nil) (fun _ _ _ _ _ => (pe_ix (show IxR _ (rIxT K) from ix_tup) (pv 7) pe_int (fun _ _ => rfl))))))
      (pss_cons (pset (i := 8) sc_law.nd (pe_op op_catS (pv 6) (pe_lc (own := [("gate", 9)]) (g := gName 9) (tt := tYes) rfl sc_law.nd (pi_list (pv 3)) (blkOk_by (N := N_law) (sc := defScope s_law) (by decide +kernel)) (fun _ _ _ _ _ => (pgn (i := 9) sc_law.nd)) (fun _ _ _ _ _ => pts_nil) (fun _ _ _ _ _ => (pe_ix (show IxR _ (rIxT K) from ix_tup) (pv 9) pe_int (fun _ _ => rfl))))))
      (pss_cons (pset (i := 10) sc_law.nd (pe_op op_catS (pv 4) (pe_lc (own := [("row", 7)]) (g := gName 7) (tt := tYes) rfl sc_law.nd (pi_list (pv 2)) (blkOk_by (N := N_law) (sc := defScope s_law) (by decide +kernel)) (fun _ _ _ _ _ => (pgn (i := 7) sc_law.nd)) (fun _ _ _ _ _ => pts_nil) (fun _ _ _ _ _ => (pe_ix (show IxR _ (rIxT K) from ix_tup) (pv 7) pe_int (fun _ _ => rfl))))))
      (pss_cons (ps_if (pt_cmpR (op_neD hu) (pe_lst (pa_cons (pe_mx0 M_Circuit_lines T.k_Circuit (hr.mono (by decide)) (pv 5)) (pa_cons (pe_mx0 M_Circuit_sources T.k_Circuit (hr.mono (by decide)) (pv 5)) (pa_cons (pe_mx0 M_Circuit_sinks T.k_Circuit (hr.mono (by decide)) (pv 5)) pa_nil)))) (pe_lst (pa_cons (pv 8) (pa_cons (pv 6) (pa_cons (pv 10) pa_nil)))) (nomark _)) (pss_one (ps_ret pe_bl)) pss_nil)
      (pss_cons (ps_expr (pe_bm PySem.F.plainAttrs_list PySem.F.slot_list_append PySem.F.type_list_append mt_append (pe_mx0 M_Circuit_lines T.k_Circuit (hr.mono (by decide)) (pv 5)) (pa_cons pe_str pa_nil)))
      (pss_cons (ps_expr (pe_bm PySem.F.plainAttrs_list PySem.F.slot_list_append PySem.F.type_list_append mt_append (pe_mx0 M_Circuit_sources T.k_Circuit (hr.mono (by decide)) (pv 5)) (pa_cons pe_str pa_nil)))
      (pss_cons (ps_expr (pe_bm PySem.F.plainAttrs_list PySem.F.slot_list_append PySem.F.type_list_append mt_append (pe_mx0 M_Circuit_sinks T.k_Circuit (hr.mono (by decide)) (pv 5)) (pa_cons pe_str pa_nil)))
      (pss_cons (ps_if (pt_cmpR (op_neD hu) (pe_lst (pa_cons (pe_mx0 M_Circuit_lines T.k_Circuit (hr.mono (by decide)) (pv 5)) (pa_cons (pe_mx0 M_Circuit_sources T.k_Circuit (hr.mono (by decide)) (pv 5)) (pa_cons (pe_mx0 M_Circuit_sinks T.k_Circuit (hr.mono (by decide)) (pv 5)) pa_nil)))) (pe_lst (pa_cons (pv 8) (pa_cons (pv 6) (pa_cons (pv 10) pa_nil)))) (nomark _)) (pss_one (ps_ret pe_bl)) pss_nil)
      (pss_cons (pset (i := 11) sc_law.nd (pe_tup (pa_cons (pe_callTy cr_tuple (by rfl) T.f_tuple (by decide +kernel) (pa_cons (pv 1) pa_nil)) (pa_cons (pe_callTy cr_tuple (by rfl) T.f_tuple (by decide +kernel) (pa_cons (pv 2) pa_nil)) (pa_cons (pe_callTy cr_tuple (by rfl) T.f_tuple (by decide +kernel) (pa_cons (pv 3) pa_nil)) (pa_cons (pe_callTy cr_tuple (by rfl) T.f_tuple (by decide +kernel) (pa_cons (pv 4) pa_nil)) pa_nil))))))
      (pss_cons (ps_if (PW.pt (pw_or (pt_cmpR (op_neD hu) (pe_mx0 M_Circuit_parts T.k_Circuit (hr.mono (by decide)) (pv 5)) (pv 11) (nomark _)) (pw_or1 (pt_cmpR (op_neD hu) (pe_tup (pa_cons (pe_fld (pv 5) rfl) (pa_cons (pe_fld (pv 5) rfl) (pa_cons (pe_fld (pv 5) rfl) (pa_cons (pe_fld (pv 5) rfl) pa_nil))))) (pv 11) (nomark _))))) (pss_one (ps_ret pe_bl)) pss_nil)
      (pss_cons (pset (i := 12) sc_law.nd (pe_callTy cr_list (by rfl) T.f_list (by decide +kernel) (pa_cons (pv 6) pa_nil)))
      (pss_cons (ps_for PassesOwn.never rfl (pi_list (pe_fld (pv 5) rfl)) (pgn (i := 9) sc_law.nd)
      (pss_cons (ps_if (PW.pt (pw_or (pt_cmpR (op_notInD hu65) (pv 9) (pv 3) rfl) (pw_or1 (pt_cmpR op_in_seq (pe_ix ix_tup (pv 9) pe_int (fun _ _ => rfl)) (pv 12) rfl)))) (pss_one (ps_ret pe_bl)) pss_nil)
      (pss_cons (ps_for PassesOwn.never rfl (pi_tup (pe_ix ix_tup (pv 9) pe_int (fun _ _ => rfl))) (pgn (i := 13) sc_law.nd)
      (pss_one (ps_if (pt_cmpR op_notIn_seq (pv 13) (pv 12) rfl) (pss_one (ps_ret pe_bl)) pss_nil)))
      (pss_one (ps_expr (pe_bm PySem.F.plainAttrs_list PySem.F.slot_list_append PySem.F.type_list_append mt_append (pv 12) (pa_cons (pe_ix ix_tup (pv 9) pe_int (fun _ _ => rfl)) pa_nil)))))))
      (pss_cons (ps_if (PW.pt (pw_or (pt_cmpR (op_neD hu) (pe_callB cr_sortedS (by rfl) T.f_sorted (by decide +kernel) (pa_cons (pv 12) pa_nil)) (pe_callB cr_sortedS (by rfl) T.f_sorted (by decide +kernel) (pa_cons (pv 8) pa_nil)) (nomark _)) (pw_or1 (pt_cmpR op_ne (pe_callB call_lenD (by rfl) T.f_len PySem.boot_len (pa_cons (pe_fld (pv 5) rfl) pa_nil)) (pe_callB cr_len (by rfl) T.f_len PySem.boot_len (pa_cons (pv 3) pa_nil)) (nomark _))))) (pss_one (ps_ret pe_bl)) pss_nil)
      (pss_cons (ps_for PassesOwn.never rfl (pi_list (pv 3)) (pgn (i := 9) sc_law.nd)
      (pss_one (ps_if (pt_cmpR (op_neD hu) (pe_dget hu1 (pe_fld (pv 5) rfl) (pe_ix ix_tup (pv 9) pe_int (fun _ _ => rfl)) (fun _ _ => rfl)) (pv 9) (nomark _)) (pss_one (ps_ret pe_bl)) pss_nil)))
      (pss_cons (ps_for PassesOwn.never rfl (pi_list (pv 8)) (pgn (i := 14) sc_law.nd)
      (pss_one (ps_if (pt_cmpR (op_neD hu) (pe_callB (call_sortedD rfl) (by rfl) T.f_sorted (by decide +kernel) (pa_cons (pe_mx M_Circuit_above T.k_Circuit (hr.mono (by decide)) (pv 5) (pa_cons (pv 14) pa_nil)) pa_nil)) (pe_callB (Ts.cr_sortT rfl) (by rfl) T.f_sorted (by decide +kernel) (pa_cons (pe_callTy (Ts.cr_setT rfl) (by rfl) T.f_set (by decide +kernel) (pa_cons (pe_fx G__law_above (hr.mono (by decide)) (pa_cons (pv 3) (pa_cons (pv 14) pa_nil))) pa_nil)) pa_nil)) (nomark _)) (pss_one (ps_ret pe_bl)) pss_nil)))
      (pss_one (ps_ret (pe_cmpR (op_eqD hu) (pe_globR T.g_KINDS) (pe_tup (pa_cons pe_str (pa_cons pe_str (pa_cons pe_str (pa_cons pe_str (pa_cons pe_str (pa_cons pe_str (pa_cons pe_str (pa_cons pe_str (pa_cons pe_str (pa_cons pe_str pa_nil))))))))))) (nomark _))))))))))))))))))))), ?_⟩
  rintro ds r ⟨⟨script_0, _⟩, rfl, hr⟩
  exact does_d (eX := [.x, .x, .x, .x, .x, .x, .x, .x, .x, .x, .x, .x, .x, .x, .x]) (d := eB) (eL := fun (_ : Unit) => []) (eN := fun (_ : Unit) => []) (show Sx P w K _ _ _ _ _ [.d ((eL eI) script_0), .u, .u, .u, .u, .u, .u, .u, .u, .u, .u, .u, .u, .u, .u] (b_law script_0) _ from (sx_asgG (xp_call (xa_v (ds := (fun (a_ : (List Int) × Int × Unit) => [(eL eI) a_.1, eI a_.2.1])) (v := (script_0, ((4 : Int), ()))) (ap_cons ep_var (ap_cons ep_int ap_nil))) (fun _ => rfl)) (fun _ => ge_tup (gs_cons ge_name (gs_cons ge_name (gs_cons ge_name (gs_cons ge_name gs_nil))))) (fun p_2 => (show Sx P w K _ _ _ _ _ [.d ((eL eI) script_0), .d ((eL eS) p_2.1), .d ((eL (eP2 eS eS)) p_2.2.1), .d ((eL Gt.d) p_2.2.2.1), .d ((eL eS) p_2.2.2.2), .u, .u, .u, .u, .u, .u, .u, .u, .u, .u] _ _ from (sx_asg (xp_o (xo_make (xa_consM (da := (eT eS)) (xp_v (ep_tupleL ep_var)) (xa_consM (da := (eL (eP2 eS eS))) (xp_o (u := (oL (eP2 eS eS))) (xo_listL (xp_v ep_var)) (fun _ => rfl)) (xa_consM (da := (eT Gt.d)) (xp_v (ep_tupleL ep_var)) (xa_consM (da := (eL eS)) (xp_o (u := (oL eS)) (xo_listL (xp_v ep_var)) (fun _ => rfl)) xa_nil)))) (fun _ => rfl)) (fun _ => rfl)) (fun circuit_12 => (show Sx P w K _ _ _ _ _ [.d ((eL eI) script_0), .d ((eL eS) p_2.1), .d ((eL (eP2 eS eS)) p_2.2.1), .d ((eL Gt.d) p_2.2.2.1), .d ((eL eS) p_2.2.2.2), .d ((eCircuit K) circuit_12), .u, .u, .u, .u, .u, .u, .u, .u, .u] _ _ from (sx_asg (xp_opVM ep_var (xp_o (u := (oL eS)) (xo_lc (xi_list (xp_v ep_var)) (fun row_13 => ⟨_, gc_name, (xt_v tp_yes), (xp_v (ep_op ep_var ep_int (r2_ixTn 0 rfl)))⟩)) (fun _ => rfl)) (fun _ => rm_catL)) (fun sources_16 => (show Sx P w K _ _ _ _ _ [.d ((eL eI) script_0), .d ((eL eS) p_2.1), .d ((eL (eP2 eS eS)) p_2.2.1), .d ((eL Gt.d) p_2.2.2.1), .d ((eL eS) p_2.2.2.2), .d ((eCircuit K) circuit_12), .d ((eL eS) sources_16), .u, .u, .u, .u, .u, .u, .u, .u] _ _ from (sx_asg (xp_opVM ep_var (xp_o (u := (oL eS)) (xo_lc (xi_list (xp_v ep_var)) (fun gate_17 => ⟨_, gc_name, (xt_v tp_yes), (xp_v (ep_op ep_var ep_int (r2_ixTn 0 rfl)))⟩)) (fun _ => rfl)) (fun _ => rm_catL)) (fun lines_20 => (show Sx P w K _ _ _ _ _ [.d ((eL eI) script_0), .d ((eL eS) p_2.1), .d ((eL (eP2 eS eS)) p_2.2.1), .d ((eL Gt.d) p_2.2.2.1), .d ((eL eS) p_2.2.2.2), .d ((eCircuit K) circuit_12), .d ((eL eS) sources_16), .u, .d ((eL eS) lines_20), .u, .u, .u, .u, .u, .u] _ _ from (sx_asg (xp_opVM ep_var (xp_o (u := (oL eS)) (xo_lc (xi_list (xp_v ep_var)) (fun row_21 => ⟨_, gc_name, (xt_v tp_yes), (xp_v (ep_op ep_var ep_int (r2_ixTn 1 rfl)))⟩)) (fun _ => rfl)) (fun _ => rm_catL)) (fun sinks_24 => (show Sx P w K _ _ _ _ _ [.d ((eL eI) script_0), .d ((eL eS) p_2.1), .d ((eL (eP2 eS eS)) p_2.2.1), .d ((eL Gt.d) p_2.2.2.1), .d ((eL eS) p_2.2.2.2), .d ((eCircuit K) circuit_12), .d ((eL eS) sources_16), .u, .d ((eL eS) lines_20), .u, .d ((eL eS) sinks_24), .u, .u, .u, .u] _ _ from (sx_if (xt_test (xp_opMV (xp_o (u := (oL (eL eS))) (xo_lst (xa_consM (da := (eL eS)) (xp_o (u := (oL eS)) (xo_meth (v := circuit_12) ep_var (xa_v (ds := (fun (a_ : Unit) => [])) (v := ()) ap_nil) (fun _ => rfl) (fun _ => rfl)) (fun _ => rfl)) (xa_consM (da := (eL eS)) (xp_o (u := (oL eS)) (xo_meth (v := circuit_12) ep_var (xa_v (ds := (fun (a_ : Unit) => [])) (v := ()) ap_nil) (fun _ => rfl) (fun _ => rfl)) (fun _ => rfl)) (xa_consM (da := (eL eS)) (xp_o (u := (oL eS)) (xo_meth (v := circuit_12) ep_var (xa_v (ds := (fun (a_ : Unit) => [])) (v := ()) ap_nil) (fun _ => rfl) (fun _ => rfl)) (fun _ => rfl)) xa_nil))) (fun _ => rfl)) (fun _ => rfl)) (ep_is (e := (eL (eL eS)) ([lines_20, sources_16, sinks_24] : (List (List Str)))) (ep_lst (ap_cons ep_var (ap_cons ep_var (ap_cons ep_var ap_nil))) (Nat.le_of_ble_eq_true rfl)) rfl) (fun _ => (rm_neS (pyS_list (pyS_list pyS_str)) (by decide))))) (sx_ret (xp_v ep_bl) (fun _ => rfl)) (sx_skip (sx_drop (xp_tmpApp (xo_meth (v := circuit_12) ep_var (xa_v (ds := (fun (a_ : Unit) => [])) (v := ()) ap_nil) (fun _ => rfl) (fun _ => rfl)) ep_str) (fun _ => (sx_drop (xp_tmpApp (xo_meth (v := circuit_12) ep_var (xa_v (ds := (fun (a_ : Unit) => [])) (v := ()) ap_nil) (fun _ => rfl) (fun _ => rfl)) ep_str) (fun _ => (sx_drop (xp_tmpApp (xo_meth (v := circuit_12) ep_var (xa_v (ds := (fun (a_ : Unit) => [])) (v := ()) ap_nil) (fun _ => rfl) (fun _ => rfl)) ep_str) (fun _ => (sx_if (xt_test (xp_opMV (xp_o (u := (oL (eL eS))) (xo_lst (xa_consM (da := (eL eS)) (xp_o (u := (oL eS)) (xo_meth (v := circuit_12) ep_var (xa_v (ds := (fun (a_ : Unit) => [])) (v := ()) ap_nil) (fun _ => rfl) (fun _ => rfl)) (fun _ => rfl)) (xa_consM (da := (eL eS)) (xp_o (u := (oL eS)) (xo_meth (v := circuit_12) ep_var (xa_v (ds := (fun (a_ : Unit) => [])) (v := ()) ap_nil) (fun _ => rfl) (fun _ => rfl)) (fun _ => rfl)) (xa_consM (da := (eL eS)) (xp_o (u := (oL eS)) (xo_meth (v := circuit_12) ep_var (xa_v (ds := (fun (a_ : Unit) => [])) (v := ()) ap_nil) (fun _ => rfl) (fun _ => rfl)) (fun _ => rfl)) xa_nil))) (fun _ => rfl)) (fun _ => rfl)) (ep_is (e := (eL (eL eS)) ([lines_20, sources_16, sinks_24] : (List (List Str)))) (ep_lst (ap_cons ep_var (ap_cons ep_var (ap_cons ep_var ap_nil))) (Nat.le_of_ble_eq_true rfl)) rfl) (fun _ => (rm_neS (pyS_list (pyS_list pyS_str)) (by decide))))) (sx_ret (xp_v ep_bl) (fun _ => rfl)) (sx_skip (sx_asg (xp_v (ep_is (e := (eP4 (eT eS) (eT (eP2 eS eS)) (eT Gt.d) (eT eS)) ((p_2.1, p_2.2.1, p_2.2.2.1, p_2.2.2.2) : ((List Str) × (List (Str × Str)) × (List Gt) × (List Str)))) (ep_tup (ap_cons (ep_tupleL ep_var) (ap_cons (ep_tupleL ep_var) (ap_cons (ep_tupleL ep_var) (ap_cons (ep_tupleL ep_var) ap_nil)))) (Nat.le_of_ble_eq_true rfl)) rfl)) (fun parts_75 => (show Sx P w K _ _ _ _ _ [.d ((eL eI) script_0), .d ((eL eS) p_2.1), .d ((eL (eP2 eS eS)) p_2.2.1), .d ((eL Gt.d) p_2.2.2.1), .d ((eL eS) p_2.2.2.2), .d ((eCircuit K) circuit_12), .d ((eL eS) sources_16), .u, .d ((eL eS) lines_20), .u, .d ((eL eS) sinks_24), .d ((eP4 (eT eS) (eT (eP2 eS eS)) (eT Gt.d) (eT eS)) parts_75), .u, .u, .u] _ _ from (sx_if (xt_or (xt_test (xp_opMV (xp_meth (v := circuit_12) ep_var (xa_v (ds := (fun (a_ : Unit) => [])) (v := ()) ap_nil) (fun _ => rfl) (fun _ => rfl)) ep_var (fun _ => (rm_neS (pyS_p4 (pyS_tup pyS_str) (pyS_tup (pyS_p2 pyS_str pyS_str)) (pyS_tup pyS_gt) (pyS_tup pyS_str)) (by decide))))) (xt_test (xp_opVV (ep_is (e := (eP4 (eT eS) (eT (eP2 eS eS)) (eT Gt.d) (eT eS)) ((circuit_12.1.is, circuit_12.1.rs, circuit_12.1.gs, circuit_12.1.os) : ((List Str) × (List (Str × Str)) × (List Gt) × (List Str)))) (ep_tup (ap_cons (ep_fld T.k_Circuit (T.a_Circuit "inputs" (by decide)) ep_var rfl) (ap_cons (ep_fld T.k_Circuit (T.a_Circuit "registers" (by decide)) ep_var rfl) (ap_cons (ep_fld T.k_Circuit (T.a_Circuit "gates" (by decide)) ep_var rfl) (ap_cons (ep_fld T.k_Circuit (T.a_Circuit "outputs" (by decide)) ep_var rfl) ap_nil)))) (Nat.le_of_ble_eq_true rfl)) rfl) ep_var (rm_neS (pyS_p4 (pyS_tup pyS_str) (pyS_tup (pyS_p2 pyS_str pyS_str)) (pyS_tup pyS_gt) (pyS_tup pyS_str)) (by decide))))) (sx_ret (xp_v ep_bl) (fun _ => rfl)) (sx_skip (sx_own (xo_listL (xp_v ep_var)) (fun known_81 => (show Sx P w K _ _ _ _ _ [.d ((eL eI) script_0), .d ((eL eS) p_2.1), .d ((eL (eP2 eS eS)) p_2.2.1), .d ((eL Gt.d) p_2.2.2.1), .d ((eL eS) p_2.2.2.2), .d ((eCircuit K) circuit_12), .d ((eL eS) sources_16), .u, .d ((eL eS) lines_20), .u, .d ((eL eS) sinks_24), .d ((eP4 (eT eS) (eT (eP2 eS eS)) (eT Gt.d) (eT eS)) parts_75), .ow none ((oL eS) known_81), .u, .u] _ _ from (sx_for (eS := (fun (v_82 : (List Str)) => [.d ((eL eI) script_0), .d ((eL eS) p_2.1), .d ((eL (eP2 eS eS)) p_2.2.1), .d ((eL Gt.d) p_2.2.2.1), .d ((eL eS) p_2.2.2.2), .d ((eCircuit K) circuit_12), .d ((eL eS) sources_16), .u, .d ((eL eS) lines_20), .x, .d ((eL eS) sinks_24), .d ((eP4 (eT eS) (eT (eP2 eS eS)) (eT Gt.d) (eT eS)) parts_75), .ow none ((oL eS) v_82), .x, .u])) (v0 := known_81) outD_ok (xi_list (xp_v (ep_fld T.k_Circuit (T.a_Circuit "order" (by decide)) ep_var rfl))) (Le.s (Le.s (Le.s (Le.s (Le.s (Le.s (Le.s (Le.s (Le.s (Le.x (Le.s (Le.s (Le.s (Le.x (Le.s Le.nil))))))))))))))) (fun v_82 (gate_83 : Gt) => ⟨_, ge_name, (show Sx P w K _ _ _ _ _ [.d ((eL eI) script_0), .d ((eL eS) p_2.1), .d ((eL (eP2 eS eS)) p_2.2.1), .d ((eL Gt.d) p_2.2.2.1), .d ((eL eS) p_2.2.2.2), .d ((eCircuit K) circuit_12), .d ((eL eS) sources_16), .u, .d ((eL eS) lines_20), .d (Gt.d gate_83), .d ((eL eS) sinks_24), .d ((eP4 (eT eS) (eT (eP2 eS eS)) (eT Gt.d) (eT eS)) parts_75), .ow none ((oL eS) v_82), .x, .u] _ _ from (sx_if (xt_or (xt_test (xp_opVV ep_var ep_var rm_notInDD)) (xt_v (tp_test (ep_lend (i := 12) rfl rfl (ep_op (ep_op ep_var ep_int (r2_ixTn 0 rfl)) ep_var r2_inSL) rfl)))) (sx_ret (xp_v ep_bl) (fun _ => rfl)) (sx_skip (sx_for (eS := (fun (v_87 : Unit) => [.d ((eL eI) script_0), .d ((eL eS) p_2.1), .d ((eL (eP2 eS eS)) p_2.2.1), .d ((eL Gt.d) p_2.2.2.1), .d ((eL eS) p_2.2.2.2), .d ((eCircuit K) circuit_12), .d ((eL eS) sources_16), .u, .d ((eL eS) lines_20), .d (Gt.d gate_83), .d ((eL eS) sinks_24), .d ((eP4 (eT eS) (eT (eP2 eS eS)) (eT Gt.d) (eT eS)) parts_75), .ow none ((oL eS) v_82), .x, .u])) (v0 := ()) outD_ok (xi_tup (xp_v (ep_op ep_var ep_int (r2_ixTn 2 rfl)))) (Le.s (Le.s (Le.s (Le.s (Le.s (Le.s (Le.s (Le.s (Le.s (Le.s (Le.s (Le.s (Le.s (Le.s (Le.s Le.nil))))))))))))))) (fun v_87 (pin_88 : Str) => ⟨_, ge_name, (show Sx P w K _ _ _ _ _ [.d ((eL eI) script_0), .d ((eL eS) p_2.1), .d ((eL (eP2 eS eS)) p_2.2.1), .d ((eL Gt.d) p_2.2.2.1), .d ((eL eS) p_2.2.2.2), .d ((eCircuit K) circuit_12), .d ((eL eS) sources_16), .u, .d ((eL eS) lines_20), .d (Gt.d gate_83), .d ((eL eS) sinks_24), .d ((eP4 (eT eS) (eT (eP2 eS eS)) (eT Gt.d) (eT eS)) parts_75), .ow none ((oL eS) v_82), .d (eS pin_88), .u] _ _ from (sx_last (sx_if (xt_v (tp_test (ep_lend (i := 12) rfl rfl (ep_op ep_var ep_var r2_inSLn) rfl))) (sx_ret (xp_v ep_bl) (fun _ => rfl)) (sx_skip (sx_end (Le.s (Le.s (Le.s (Le.s (Le.s (Le.s (Le.s (Le.s (Le.s (Le.s (Le.s (Le.s (Le.s (Le.x (Le.s Le.nil))))))))))))))))))))⟩) (fun w_91 => (show Sx P w K _ _ _ _ _ [.d ((eL eI) script_0), .d ((eL eS) p_2.1), .d ((eL (eP2 eS eS)) p_2.2.1), .d ((eL Gt.d) p_2.2.2.1), .d ((eL eS) p_2.2.2.2), .d ((eCircuit K) circuit_12), .d ((eL eS) sources_16), .u, .d ((eL eS) lines_20), .d (Gt.d gate_83), .d ((eL eS) sinks_24), .d ((eP4 (eT eS) (eT (eP2 eS eS)) (eT Gt.d) (eT eS)) parts_75), .ow none ((oL eS) v_82), .x, .u] _ _ from (sx_last (sx_app (i := 12) (xs := List.map eS v_82) rfl (xp_v (ep_op ep_var ep_int (r2_ixTn 0 rfl))) (fun t_92 => (sx_app1 12 (show Sx P w K _ _ _ _ _ [.d ((eL eI) script_0), .d ((eL eS) p_2.1), .d ((eL (eP2 eS eS)) p_2.2.1), .d ((eL Gt.d) p_2.2.2.1), .d ((eL eS) p_2.2.2.2), .d ((eCircuit K) circuit_12), .d ((eL eS) sources_16), .u, .d ((eL eS) lines_20), .d (Gt.d gate_83), .d ((eL eS) sinks_24), .d ((eP4 (eT eS) (eT (eP2 eS eS)) (eT Gt.d) (eT eS)) parts_75), .ow none ((oL eS) (v_82 ++ [t_92])), .x, .u] _ _ from (sx_end (Le.s (Le.s (Le.s (Le.s (Le.s (Le.s (Le.s (Le.s (Le.s (Le.x (Le.s (Le.s (Le.s (Le.s (Le.s Le.nil)))))))))))))))))))))))))))⟩) (fun w_94 => (show Sx P w K _ _ _ _ _ [.d ((eL eI) script_0), .d ((eL eS) p_2.1), .d ((eL (eP2 eS eS)) p_2.2.1), .d ((eL Gt.d) p_2.2.2.1), .d ((eL eS) p_2.2.2.2), .d ((eCircuit K) circuit_12), .d ((eL eS) sources_16), .u, .d ((eL eS) lines_20), .x, .d ((eL eS) sinks_24), .d ((eP4 (eT eS) (eT (eP2 eS eS)) (eT Gt.d) (eT eS)) parts_75), .ow none ((oL eS) w_94), .x, .u] _ _ from (sx_freeze 12 rfl rfl (sx_if (xt_or (xt_test (xp_opMM (xp_o (u := (oL eS)) (xo_sortS (xp_v ep_var)) (fun _ => rfl)) (xp_o (u := (oL eS)) (xo_sortS (xp_v ep_var)) (fun _ => rfl)) (fun _ _ => (rm_neS (pyS_list pyS_str) (by decide))))) (xt_v (tp_test (ep_op (ep_cb (ap_cons (ep_is (ep_fld T.k_Circuit (T.a_Circuit "gate_of" (by decide)) ep_var rfl) (gof_eq _)) ap_nil) (rl_lenDk (e := Gt.d))) (ep_cb (ap_cons ep_var ap_nil) rl_lenLm) Pw.r2_neI)))) (sx_ret (xp_v ep_bl) (fun _ => rfl)) (sx_skip (sx_for (eS := (fun (v_102 : Unit) => [.d ((eL eI) script_0), .d ((eL eS) p_2.1), .d ((eL (eP2 eS eS)) p_2.2.1), .d ((eL Gt.d) p_2.2.2.1), .d ((eL eS) p_2.2.2.2), .d ((eCircuit K) circuit_12), .d ((eL eS) sources_16), .u, .d ((eL eS) lines_20), .x, .d ((eL eS) sinks_24), .d ((eP4 (eT eS) (eT (eP2 eS eS)) (eT Gt.d) (eT eS)) parts_75), .d ((eL eS) w_94), .x, .u])) (v0 := ()) outD_ok (xi_list (xp_v ep_var)) (Le.s (Le.s (Le.s (Le.s (Le.s (Le.s (Le.s (Le.s (Le.s (Le.s (Le.s (Le.s (Le.s (Le.s (Le.s Le.nil))))))))))))))) (fun v_102 (gate_103 : Gt) => ⟨_, ge_name, (show Sx P w K _ _ _ _ _ [.d ((eL eI) script_0), .d ((eL eS) p_2.1), .d ((eL (eP2 eS eS)) p_2.2.1), .d ((eL Gt.d) p_2.2.2.1), .d ((eL eS) p_2.2.2.2), .d ((eCircuit K) circuit_12), .d ((eL eS) sources_16), .u, .d ((eL eS) lines_20), .d (Gt.d gate_103), .d ((eL eS) sinks_24), .d ((eP4 (eT eS) (eT (eP2 eS eS)) (eT Gt.d) (eT eS)) parts_75), .d ((eL eS) w_94), .x, .u] _ _ from (sx_last (sx_if (xt_test (xp_opMV (xp_dget (xk_d (xp_v (ep_is (ep_fld T.k_Circuit (T.a_Circuit "gate_of" (by decide)) ep_var rfl) (gof_eq _)))) (xp_v (ep_op ep_var ep_int (r2_ixTn 0 rfl)))) ep_var (fun _ => (rm_neS pyS_gt (by decide))))) (sx_ret (xp_v ep_bl) (fun _ => rfl)) (sx_skip (sx_end (Le.s (Le.s (Le.s (Le.s (Le.s (Le.s (Le.s (Le.s (Le.s (Le.x (Le.s (Le.s (Le.s (Le.s (Le.s Le.nil))))))))))))))))))))⟩) (fun w_109 => (show Sx P w K _ _ _ _ _ [.d ((eL eI) script_0), .d ((eL eS) p_2.1), .d ((eL (eP2 eS eS)) p_2.2.1), .d ((eL Gt.d) p_2.2.2.1), .d ((eL eS) p_2.2.2.2), .d ((eCircuit K) circuit_12), .d ((eL eS) sources_16), .u, .d ((eL eS) lines_20), .x, .d ((eL eS) sinks_24), .d ((eP4 (eT eS) (eT (eP2 eS eS)) (eT Gt.d) (eT eS)) parts_75), .d ((eL eS) w_94), .x, .u] _ _ from (sx_for (eS := (fun (v_110 : Unit) => [.d ((eL eI) script_0), .d ((eL eS) p_2.1), .d ((eL (eP2 eS eS)) p_2.2.1), .d ((eL Gt.d) p_2.2.2.1), .d ((eL eS) p_2.2.2.2), .d ((eCircuit K) circuit_12), .d ((eL eS) sources_16), .u, .d ((eL eS) lines_20), .x, .d ((eL eS) sinks_24), .d ((eP4 (eT eS) (eT (eP2 eS eS)) (eT Gt.d) (eT eS)) parts_75), .d ((eL eS) w_94), .x, .x])) (v0 := ()) outD_ok (xi_list (xp_v ep_var)) (Le.s (Le.s (Le.s (Le.s (Le.s (Le.s (Le.s (Le.s (Le.s (Le.s (Le.s (Le.s (Le.s (Le.s (Le.x Le.nil))))))))))))))) (fun v_110 (line_111 : Str) => ⟨_, ge_name, (show Sx P w K _ _ _ _ _ [.d ((eL eI) script_0), .d ((eL eS) p_2.1), .d ((eL (eP2 eS eS)) p_2.2.1), .d ((eL Gt.d) p_2.2.2.1), .d ((eL eS) p_2.2.2.2), .d ((eCircuit K) circuit_12), .d ((eL eS) sources_16), .u, .d ((eL eS) lines_20), .x, .d ((eL eS) sinks_24), .d ((eP4 (eT eS) (eT (eP2 eS eS)) (eT Gt.d) (eT eS)) parts_75), .d ((eL eS) w_94), .x, .d (eS line_111)] _ _ from (sx_last (sx_if (xt_test (xp_opMM (xp_o (u := (oL eS)) (xo_sortK (xk_d (xp_o (xo_meth (v := circuit_12) ep_var (xa_v (ds := (fun (a_ : Str × Unit) => [eS a_.1])) (v := (line_111, ())) (ap_cons ep_var ap_nil)) (fun _ => rfl) (fun _ => rfl)) (fun _ => rfl)))) (fun _ => rfl)) (xp_o (u := (oL eS)) (xo_sortT (xp_call (xa_v (ds := (fun (a_ : (List Gt) × Str × Unit) => [(eL Gt.d) a_.1, eS a_.2.1])) (v := (p_2.2.2.1, (line_111, ()))) (ap_cons ep_var (ap_cons ep_var ap_nil))) (fun _ => rfl))) (fun _ => rfl)) (fun _ _ => (rm_neS (pyS_list pyS_str) (by decide))))) (sx_ret (xp_v ep_bl) (fun _ => rfl)) (sx_skip (sx_end (Le.s (Le.s (Le.s (Le.s (Le.s (Le.s (Le.s (Le.s (Le.s (Le.s (Le.s (Le.s (Le.s (Le.s (Le.x Le.nil))))))))))))))))))))⟩) (fun w_120 => (show Sx P w K _ _ _ _ _ [.d ((eL eI) script_0), .d ((eL eS) p_2.1), .d ((eL (eP2 eS eS)) p_2.2.1), .d ((eL Gt.d) p_2.2.2.1), .d ((eL eS) p_2.2.2.2), .d ((eCircuit K) circuit_12), .d ((eL eS) sources_16), .u, .d ((eL eS) lines_20), .x, .d ((eL eS) sinks_24), .d ((eP4 (eT eS) (eT (eP2 eS eS)) (eT Gt.d) (eT eS)) parts_75), .d ((eL eS) w_94), .x, .x] _ _ from (sx_last (sx_ret (xp_opVV (ep_globT (rp_wr T.t_KINDS (fun _ => rpl_strs _))) (ep_is (e := (eT eS) ([("and" : Str), ("or" : Str), ("nand" : Str), ("nor" : Str), ("xor" : Str), ("xnor" : Str), ("not" : Str), ("buf" : Str), ("low" : Str), ("high" : Str)] : (List Str))) (ep_tup (ap_cons ep_str (ap_cons ep_str (ap_cons ep_str (ap_cons ep_str (ap_cons ep_str (ap_cons ep_str (ap_cons ep_str (ap_cons ep_str (ap_cons ep_str (ap_cons ep_str ap_nil)))))))))) (Nat.le_of_ble_eq_true rfl)) rfl) (rm_eqS (pyS_tup pyS_str) (by decide))) (fun _ => rfl))))))))))))))))))))))))))))))))))))))))))))))))) hr
end
end CC
set_option maxHeartbeats 1000000
namespace CC
open PySem PySem.Spec PyProof.Rows L2 Qw Mw RZ
open Evl hiding ea_cons
open Pw (Dt Rp RpL Wk R2d R1d RLd RLn Kq KqL spX2 Xm Xm0 cr_int cr_min2 cr_max2 cr_list cr_tuple rTupS cr_len pe_globI pe_globS pe_globR pe_tyname)
section
theorem get_lt {α : Type} {l : List α} {i : Nat} {a : α} (h : l[i]? = some a) : i < l.length := (List.getElem?_eq_some_iff.mp h).1
abbrev lin (p : CV) : List Str := linesOf p.1.is p.1.rs p.1.gs
abbrev src (p : CV) : List Str := srcOf p.1.is p.1.rs
structure Wf (p : CV) : Prop where
  ok : p.1.ok
  nd : (lin p).Nodup
  len : (lin p).length ≤ 60
  perm : p.2.Perm p.1.gs
  od : Ordd (src p) p.2
  nm : ∀ x ∈ lin p, nameB x = true ∧ okStr x = true ∧ x.length ≤ 12
  sk : ∀ x ∈ sinkOf p.1.os p.1.rs, x ∈ lin p
  kd : ∀ g ∈ p.1.gs, g.k ∈ KIN ∧ mayHave g.k g.ps.length = true
theorem lin_gs {p : CV} {g : Gt} (h : g ∈ p.1.gs) : g.l ∈ lin p := List.mem_append_right _ (List.mem_map_of_mem h)
theorem Wf.pin_lin {p : CV} (W : Wf p) {g : Gt} (h : g ∈ p.1.gs) : ∀ x ∈ g.ps, x ∈ lin p := fun x hx => by
  obtain ⟨pre, post, e⟩ := List.append_of_mem (W.perm.mem_iff.mpr h)
  rcases W.od pre g post e x hx with h1 | h1
  · exact List.mem_append_left _ h1
  · obtain ⟨g', hg', rfl⟩ := List.mem_map.mp h1
    exact lin_gs (W.perm.subset (e ▸ List.mem_append_left _ hg'))
theorem nodup_inj : ∀ {l : List Gt}, (l.map Gt.l).Nodup → ∀ a ∈ l, ∀ b ∈ l, a.l = b.l → a = b
  | [], _, _, ha, _, _, _ => nomatch ha
  | x :: l, hn, a, ha, b, hb, e => by
    rw [List.map_cons, List.nodup_cons] at hn
    rcases List.mem_cons.mp ha with h1 | h1
    · rcases List.mem_cons.mp hb with h2 | h2
      · rw [h1, h2]
      · exact absurd (by rw [← h1, e]; exact List.mem_map_of_mem h2) hn.1
    · rcases List.mem_cons.mp hb with h2 | h2
      · exact absurd (by rw [← h2, ← e]; exact List.mem_map_of_mem h1) hn.1
      · exact nodup_inj hn.2 a h1 b h2 e
def Clo (gs : List Gt) (S : List Str) : Prop := ∀ g ∈ gs, g.l ∈ S → ∀ x ∈ g.ps, x ∈ S
theorem abStep_sub {S : List Str} : ∀ (ps : List Str) (s : List Str × List Str), (∀ x ∈ ps, x ∈ S) → (∀ x ∈ s.1, x ∈ S) → (∀ x ∈ s.2, x ∈ S) → (∀ x ∈ (ps.foldl abStep s).1, x ∈ S) ∧ ∀ x ∈ (ps.foldl abStep s).2, x ∈ S
  | [], s, _, h1, h2 => ⟨h1, h2⟩
  | p :: ps, s, h, h1, h2 => by
    rw [List.foldl_cons]
    refine abStep_sub ps _ (fun x hx => h x (List.mem_cons_of_mem _ hx)) ?_ ?_
    · unfold abStep
      split
      · exact h1
      · intro x hx
        rcases List.mem_append.mp hx with z | z
        · exact h1 x z
        · cases List.mem_singleton.mp z
          exact h _ List.mem_cons_self
    · unfold abStep
      split
      · exact h2
      · intro x hx
        rcases List.mem_append.mp hx with z | z
        · exact h2 x z
        · cases List.mem_singleton.mp z
          exact h _ List.mem_cons_self
theorem abN_sub {gs : List Gt} {S : List Str} (hS : Clo gs S) : ∀ (n : Nat) (f ws : List Str), (∀ x ∈ f, x ∈ S) → (∀ x ∈ ws, x ∈ S) → ∀ x ∈ abN gs n f ws, x ∈ S
  | 0, f, ws, h1, h2 => h1
  | n + 1, f, ws, h1, h2 => by
    unfold abN
    cases e : ws.getLast? with
    | none => exact h1
    | some y =>
      have hy : y ∈ S := h2 y (List.mem_of_getLast? e)
      have hp : ∀ x ∈ pinsOf gs y, x ∈ S := fun x hx => by
        unfold pinsOf at hx
        cases e2 : gs.find? fun g => decide (g.l = y) with
        | none => rw [e2] at hx; cases hx
        | some g =>
          rw [e2] at hx
          have h3 := List.find?_some e2
          have h3 : g.l = y := of_decide_eq_true h3
          exact hS g (List.mem_of_find?_eq_some e2) (h3 ▸ hy) x hx
      have h3 := abStep_sub (pinsOf gs y) (f, ws.dropLast) hp h1 fun x hx => h2 x (List.dropLast_subset _ hx)
      exact abN_sub hS n _ _ h3.1 h3.2
theorem aboveL_sub {gs : List Gt} {S : List Str} {x : Str} (hS : Clo gs S) (hx : x ∈ S) : ∀ y ∈ aboveL gs x, y ∈ S :=
  abN_sub hS _ _ _ (fun y hy => by cases List.mem_singleton.mp hy; exact hx) (fun y hy => by cases List.mem_singleton.mp hy; exact hx)
/-- the gates behind place i know their pins; what is new lies ahead of it -/
def Low (p : CV) (i : Nat) (x : Str) : Prop := x ∈ src p ∨ ∃ j g, j < i ∧ p.2[j]? = some g ∧ g.l = x
theorem low_pins {p : CV} (W : Wf p) {i : Nat} {g : Gt} (h : p.2[i]? = some g) : ∀ x ∈ g.ps, Low p i x := fun x hx => by
  have hjl := get_lt h
  have e : p.2 = p.2.take i ++ g :: p.2.drop (i + 1) := by
    have h1 := List.take_append_drop i p.2
    rw [List.drop_eq_getElem_cons hjl] at h1
    rw [List.getElem?_eq_getElem hjl] at h
    rw [Option.some.inj h] at h1
    exact h1.symm
  rcases W.od _ _ _ e x hx with h1 | h1
  · exact .inl h1
  · obtain ⟨g', hg', rfl⟩ := List.mem_map.mp h1
    obtain ⟨q, hq⟩ := List.getElem?_of_mem hg'
    have hql := get_lt hq
    rw [List.length_take] at hql
    rw [List.getElem?_take_of_lt (by omega)] at hq
    exact .inr ⟨q, g', by omega, hq, rfl⟩
theorem Low.mono {p : CV} {i k : Nat} {x : Str} (h : Low p i x) (hk : i ≤ k) : Low p k x := h.elim .inl fun ⟨j, g, h1, h2⟩ => .inr ⟨j, g, by omega, h2⟩
theorem ord_nd {p : CV} (W : Wf p) : (p.2.map Gt.l).Nodup := ((W.perm.map Gt.l).nodup_iff).mpr (List.nodup_append.mp W.nd).2.1
theorem not_low {p : CV} (W : Wf p) {i j : Nat} {g : Gt} (h : p.2[j]? = some g) (hij : i ≤ j) : ¬ Low p i g.l := fun z => by
  have hg : g ∈ p.1.gs := W.perm.subset (List.mem_of_getElem? h)
  rcases z with z | ⟨q, g', h1, h2, h3⟩
  · exact (List.nodup_append.mp W.nd).2.2 _ z _ (List.mem_map_of_mem hg) rfl
  · have nd := ord_nd W
    have e1 : (p.2.map Gt.l)[q]? = some g.l := by rw [List.getElem?_map, h2]; exact congrArg some h3
    have e2 : (p.2.map Gt.l)[j]? = some g.l := by rw [List.getElem?_map, h]; rfl
    have := (List.getElem?_inj (i := q) (j := j) (get_lt e1) nd).mp (e1.trans e2.symm)
    omega
theorem abStep_inv {U : List Str} : ∀ (ps : List Str) (s : List Str × List Str), (∀ x ∈ ps, x ∈ U) → (∀ x ∈ s.2, x ∈ s.1) →
    (∀ x ∈ s.1, x ∈ (ps.foldl abStep s).1) ∧ (∀ x ∈ ps, x ∈ (ps.foldl abStep s).1) ∧ (∀ x ∈ (ps.foldl abStep s).2, x ∈ (ps.foldl abStep s).1) ∧ (∀ x ∈ (ps.foldl abStep s).1, x ∈ s.1 ∨ x ∈ (ps.foldl abStep s).2) ∧ (∀ x ∈ s.2, x ∈ (ps.foldl abStep s).2) ∧
      (ps.foldl abStep s).2.length + cnt U (ps.foldl abStep s).1 ≤ s.2.length + cnt U s.1
  | [], s, _, h2 => ⟨fun x h => h, ⟨fun x h => absurd h (by simp), ⟨h2, ⟨fun x h => Or.inl h, ⟨fun x h => h, Nat.le_refl _⟩⟩⟩⟩⟩
  | p :: ps, s, h, h2 => by
    rw [List.foldl_cons]
    have hp : (∀ x ∈ s.1, x ∈ (abStep s p).1) ∧ p ∈ (abStep s p).1 ∧ (∀ x ∈ (abStep s p).2, x ∈ (abStep s p).1) ∧ (∀ x ∈ (abStep s p).1, x ∈ s.1 ∨ x ∈ (abStep s p).2) ∧ (∀ x ∈ s.2, x ∈ (abStep s p).2) ∧ (abStep s p).2.length + cnt U (abStep s p).1 ≤ s.2.length + cnt U s.1 := by
      unfold abStep
      split
      · rename_i hc
        exact ⟨fun x h => h, hc, h2, fun x h => .inl h, fun x h => h, Nat.le_refl _⟩
      · rename_i hc
        refine ⟨fun x h => List.mem_append_left _ h, by simp, fun x hx => ?_, fun x hx => ?_, fun x h => List.mem_append_left _ h, ?_⟩
        · rcases List.mem_append.mp hx with z | z
          · exact List.mem_append_left _ (h2 x z)
          · exact List.mem_append_right _ z
        · rcases List.mem_append.mp hx with z | z
          · exact .inl z
          · exact .inr (List.mem_append_right _ z)
        · have := cnt_add (U := U) (f := s.1) (h p List.mem_cons_self) hc
          simp only [List.length_append, List.length_singleton]
          omega
    obtain ⟨a1, a2, a3, a4, a5, a6⟩ := hp
    obtain ⟨b1, b2, b3, b4, b5, b6⟩ := abStep_inv ps (abStep s p) (fun x hx => h x (List.mem_cons_of_mem _ hx)) a3
    refine ⟨fun x h => b1 x (a1 x h), fun x hx => ?_, b3, fun x hx => ?_, fun x h => b5 x (a5 x h), by omega⟩
    · rcases List.mem_cons.mp hx with rfl | hx
      · exact b1 _ a2
      · exact b2 x hx
    · rcases b4 x hx with z | z
      · rcases a4 x z with y | y
        · exact .inl y
        · exact .inr (b5 x y)
      · exact .inr z
theorem abN_clo {gs : List Gt} (hnd : (gs.map Gt.l).Nodup) : ∀ (n : Nat) (f ws : List Str), (∀ x ∈ ws, x ∈ f) → (∀ g ∈ gs, g.l ∈ f → g.l ∈ ws ∨ ∀ x ∈ g.ps, x ∈ f) → ws.length + cnt (gs.flatMap Gt.ps) f ≤ n → Clo gs (abN gs n f ws) ∧ ∀ x ∈ f, x ∈ abN gs n f ws
  | 0, f, ws, h1, h2, hn => by
    have : ws = [] := List.eq_nil_of_length_eq_zero (by omega)
    subst this
    exact ⟨fun g hg hl => (h2 g hg hl).resolve_left (fun z => nomatch z), fun x h => h⟩
  | n + 1, f, ws, h1, h2, hn => by
    unfold abN
    cases e : ws.getLast? with
    | none =>
      have : ws = [] := List.getLast?_eq_none_iff.mp e
      subst this
      exact ⟨fun g hg hl => (h2 g hg hl).resolve_left (fun z => nomatch z), fun x h => h⟩
    | some y =>
      have hne : ws ≠ [] := fun z => by rw [z] at e; cases e
      have hlast : ws.getLast hne = y := by
        rw [List.getLast?_eq_getLast hne] at e
        exact Option.some.inj e
      have hws : ws = ws.dropLast ++ [y] := by
        rw [← hlast]
        exact (List.dropLast_concat_getLast hne).symm
      have hlen : ws.length = ws.dropLast.length + 1 := by rw [List.length_dropLast]; have := List.length_pos_iff.mpr hne; omega
      obtain ⟨b1, b2, b3, b4, b5, b6⟩ := abStep_inv (U := gs.flatMap Gt.ps) (pinsOf gs y) (f, ws.dropLast) (fun x hx => pins_mem hx) (fun x hx => h1 x (List.dropLast_subset _ hx))
      have r := abN_clo hnd n _ _ b3 (fun g hg hl => ?_) (by
        have h6 : ((pinsOf gs y).foldl abStep (f, ws.dropLast)).2.length + cnt (gs.flatMap Gt.ps) ((pinsOf gs y).foldl abStep (f, ws.dropLast)).1 ≤ ws.dropLast.length + cnt (gs.flatMap Gt.ps) f := b6
        omega)
      · exact ⟨r.1, fun x hx => r.2 x (b1 x hx)⟩
      · by_cases hy : g.l = y
        · refine .inr fun x hx => b2 x ?_
          unfold pinsOf
          have hf : (gs.find? fun g => decide (g.l = y)) = some g := by
            cases e2 : gs.find? fun g => decide (g.l = y) with
            | none =>
              have := List.find?_eq_none.mp e2 g hg
              simp [hy] at this
            | some g' =>
              have h4 := List.find?_some e2
              have h3 : g'.l = y := of_decide_eq_true h4
              rw [nodup_inj hnd g' (List.mem_of_find?_eq_some e2) g hg (h3.trans hy.symm)]
          rw [hf]
          exact hx
        · rcases b4 _ hl with z | z
          · rcases h2 g hg z with z | z
            · rw [hws] at z
              rcases List.mem_append.mp z with z | z
              · exact .inl (b5 _ z)
              · exact absurd (List.mem_singleton.mp z) hy
            · exact .inr fun x hx => b1 x (z x hx)
          · exact .inl z
theorem aboveL_clo {p : CV} (W : Wf p) (x : Str) : Clo p.1.gs (aboveL p.1.gs x) ∧ x ∈ aboveL p.1.gs x := by
  have r := abN_clo (List.nodup_append.mp W.nd).2.1 (1 + (p.1.gs.flatMap Gt.ps).length) [x] [x] (fun y h => h) (fun g _ hl => .inl hl) (by have := cnt_le (p.1.gs.flatMap Gt.ps) [x]; rw [List.length_singleton]; omega)
  exact ⟨r.1, r.2 x (by simp)⟩
end
end CC
set_option maxHeartbeats 1000000
namespace CC
open PySem PySem.Spec PyProof.Rows L2 Qw Mw RZ
open Evl hiding ea_cons
open Pw (Dt Rp RpL Wk R2d R1d RLd RLn Kq KqL spX2 Xm Xm0 cr_int cr_min2 cr_max2 cr_list cr_tuple rTupS cr_len pe_globI pe_globS pe_globR pe_tyname)
section
structure Pre (c : Cp) : Prop where
  ok : c.ok
  nd : (linesOf c.is c.rs c.gs).Nodup
  len : (linesOf c.is c.rs c.gs).length ≤ 60
  sl : (srcOf c.is c.rs).length ≤ 40
  nm : ∀ x ∈ linesOf c.is c.rs c.gs, nameB x = true ∧ okStr x = true ∧ x.length ≤ 12
  kd : ∀ g ∈ c.gs, g.k ∈ KIN ∧ mayHave g.k g.ps.length = true
  us : ∀ y ∈ usesOf c, y ∈ linesOf c.is c.rs c.gs
  rk : ∃ rk : Gt → Nat, ∀ g ∈ c.gs, ∀ x ∈ g.ps, x ∈ srcOf c.is c.rs ∨ ∃ h ∈ c.gs, h.l = x ∧ rk h < rk g
theorem Pre.str {c : Cp} (H : Pre c) {x : Str} (h : x ∈ linesOf c.is c.rs c.gs) : isName (.str x) = true ∧ okS (.str x) = true :=
  ⟨(H.nm x h).1, decide_eq_true (by have := (H.nm x h).2.2; omega)⟩
theorem Pre.strs {c : Cp} (H : Pre c) {l : List Str} (h : ∀ x ∈ l, x ∈ linesOf c.is c.rs c.gs) : (l.map Dt.str).all isName = true ∧ (l.map Dt.str).all okS = true := by
  refine ⟨List.all_eq_true.mpr fun d hd => ?_, List.all_eq_true.mpr fun d hd => ?_⟩
  · obtain ⟨x, hx, rfl⟩ := List.mem_map.mp hd
    exact (H.str (h x hx)).1
  · obtain ⟨x, hx, rfl⟩ := List.mem_map.mp hd
    exact (H.str (h x hx)).2
theorem Pre.made {c : Cp} (H : Pre c) : ∃ p : CV, p.1 = c ∧ Wf p ∧ m_Circuit_init c.is c.rs c.gs c.os = .ok p := by
  obtain ⟨rk, hrk⟩ := H.rk
  obtain ⟨k, ord, e, hp, ho⟩ := order_ok rk hrk
  have ok := H.ok
  have hl : ∀ x ∈ srcOf c.is c.rs, x ∈ linesOf c.is c.rs c.gs := fun x hx => List.mem_append_left _ hx
  have hi := H.strs (l := c.is) fun x hx => hl x (List.mem_append_left _ hx)
  have hos := H.strs (l := c.os) fun x hx => H.us x (List.mem_append_right _ hx)
  have hr2 : ∀ r ∈ c.rs, r.1 ∈ linesOf c.is c.rs c.gs ∧ r.2 ∈ linesOf c.is c.rs c.gs := fun r hr => ⟨hl _ (List.mem_append_right _ (List.mem_map_of_mem hr)), H.us _ (List.mem_append_left _ (List.mem_append_right _ (List.mem_map_of_mem hr)))⟩
  have hg2 : ∀ g ∈ c.gs, g.l ∈ linesOf c.is c.rs c.gs ∧ ∀ x ∈ g.ps, x ∈ linesOf c.is c.rs c.gs := fun g hg => ⟨List.mem_append_right _ (List.mem_map_of_mem hg), fun x hx => H.us _ (List.mem_append_left _ (List.mem_append_left _ (List.mem_flatMap.mpr ⟨g, hg, hx⟩)))⟩
  have hrs : (c.rs.map regD).all isReg = true ∧ (c.rs.map regD).all okR = true := by
    refine ⟨List.all_eq_true.mpr fun d hd => ?_, List.all_eq_true.mpr fun d hd => ?_⟩
    all_goals
      obtain ⟨r, hr, rfl⟩ := List.mem_map.mp hd
      obtain ⟨g1, g2⟩ := hr2 r hr
      obtain ⟨a1, b1⟩ := H.str g1
      obtain ⟨a2, b2⟩ := H.str g2
    · show (decide (([Dt.str r.1, Dt.str r.2] : List Dt).length = 2) && (isName (.str r.1) && (isName (.str r.2) && true))) = true
      rw [a1, a2]
      rfl
    · show (decide (([Dt.str r.1, Dt.str r.2] : List Dt).length ≤ 40000) && (okS (.str r.1) && (okS (.str r.2) && true))) = true
      rw [b1, b2]
      rfl
  have hgs : (c.gs.map Gt.d).all isGate = true ∧ (c.gs.map Gt.d).all okG = true := by
    refine ⟨List.all_eq_true.mpr fun d hd => ?_, List.all_eq_true.mpr fun d hd => ?_⟩
    all_goals
      obtain ⟨g, hg, rfl⟩ := List.mem_map.mp hd
      obtain ⟨a1, b1⟩ := H.str (hg2 g hg).1
      obtain ⟨a2, b2⟩ := H.strs (l := g.ps) (hg2 g hg).2
      obtain ⟨f1, f2⟩ := H.kd g hg
      have f3 := ok.2.2.2.2 g hg
    · show (decide (g.k ∈ KIN) && (mayHave g.k ((g.ps.map Dt.str).length : Int) && (isName (.str g.l) && (g.ps.map Dt.str).all isName))) = true
      rw [a1, a2, List.length_map, f2, decide_eq_true f1]
      rfl
    · show (okS (.str g.l) && ((Pw.tyD (.str g.k)).isSome && (decide ((g.ps.map Dt.str).length ≤ 30000) && (g.ps.map Dt.str).all okS))) = true
      rw [b1, b2, List.length_map, decide_eq_true (show g.ps.length ≤ 30000 by omega)]
      rfl
  have hform : form1 c = true := by
    unfold form1 formOk
    rw [hi.1, hos.1, hrs.1, hgs.1]
    rfl
  have hsmall : small1 c = true := by
    unfold small1
    rw [hi.2, hos.2, hrs.2, hgs.2]
    rfl
  refine ⟨(c, ord), rfl, ⟨ok, H.nd, H.len, hp, ho, H.nm, fun x hx => ?_, H.kd⟩, ?_⟩
  · rcases List.mem_append.mp hx with h | h
    · exact H.us x (List.mem_append_right _ h)
    · exact H.us x (List.mem_append_left _ (List.mem_append_right _ h))
  · unfold m_Circuit_init
    rw [R.need_pos ⟨⟨ok.1, ok.2.1, ok.2.2.1, ok.2.2.2.1⟩, hsmall⟩, if_pos hform, R.need_pos ok.2.2.2.2]
    unfold twice1
    rw [dup_none _ [] H.nd fun x _ z => nomatch z]
    show known1 c = _
    unfold known1
    rw [show (usesOf c).find? (fun y => !decide (y ∈ linesOf c.is c.rs c.gs)) = none from List.find?_eq_none.mpr fun y hy => by
      rw [decide_eq_true (H.us y hy)]
      decide]
    show size1 c = _
    unfold size1
    have h1 := H.len
    rw [if_pos ⟨by omega, H.sl⟩]
    unfold order1
    rw [e]
end
end CC
set_option maxHeartbeats 1000000
namespace CC
open PySem PySem.Spec PyProof.Rows L2 Qw Mw RZ
open Evl hiding ea_cons
open Pw (Dt Rp RpL Wk R2d R1d RLd RLn Kq KqL spX2 Xm Xm0 cr_int cr_min2 cr_max2 cr_list cr_tuple rTupS cr_len pe_globI pe_globS pe_globR pe_tyname)
section
theorem cnt_app (U1 U2 f : List Str) : cnt (U1 ++ U2) f = cnt U1 f + cnt U2 f := by
  unfold cnt
  rw [List.filter_append, List.length_append]
theorem cnt_mono {f f' : List Str} (h : ∀ x ∈ f, x ∈ f') : ∀ U : List Str, cnt U f' ≤ cnt U f
  | [] => Nat.le_refl _
  | u :: U => by
    have ih := cnt_mono h U
    unfold cnt at ih ⊢
    by_cases h1 : u ∈ f
    · rw [List.filter_cons_of_neg (by simp [h u h1]), List.filter_cons_of_neg (by simp [h1])]
      exact ih
    · rw [List.filter_cons_of_pos (p := fun u => !decide (u ∈ f)) (by simp [h1]), List.length_cons]
      by_cases h2 : u ∈ f'
      · rw [List.filter_cons_of_neg (by simp [h2])]
        omega
      · rw [List.filter_cons_of_pos (by simp [h2]), List.length_cons]
        omega
theorem cnt_zero {f U : List Str} (h : ∀ x ∈ U, x ∈ f) : cnt U f = 0 := by
  unfold cnt
  rw [List.length_eq_zero_iff, List.filter_eq_nil_iff]
  intro u hu
  simp [h u hu]
abbrev newP (v ps : List Str) : List Str := ps.filter fun x => !decide (x ∈ v)
theorem newP_mem {v ps : List Str} {x : Str} (h : x ∈ ps) : x ∈ v ++ newP v ps := by
  by_cases hx : x ∈ v
  · exact List.mem_append_left _ hx
  · exact List.mem_append_right _ (List.mem_filter.mpr ⟨h, by simp [hx]⟩)
theorem cnt_step {gs pre post : List Gt} {g : Gt} (e : gs = pre ++ g :: post) (v : List Str) : (newP v g.ps).length + cnt (gs.flatMap Gt.ps) (v ++ newP v g.ps) ≤ cnt (gs.flatMap Gt.ps) v := by
  have sub : ∀ x ∈ v, x ∈ v ++ newP v g.ps := fun x h => List.mem_append_left _ h
  rw [e, List.flatMap_append, List.flatMap_cons, cnt_app, cnt_app, cnt_app, cnt_app, cnt_zero (U := g.ps) (f := v ++ newP v g.ps) fun x h => newP_mem h]
  have h1 := cnt_mono sub (pre.flatMap Gt.ps)
  have h2 := cnt_mono sub (post.flatMap Gt.ps)
  have h3 : (newP v g.ps).length = cnt g.ps v := rfl
  omega
theorem law_above_ok {p : CV} (W : Wf p) (hU : (p.1.gs.flatMap Gt.ps).length ≤ 60) {line : Str} : Holds (m_law_above p.1.gs line) (fun l => (∀ x, x ∈ l ↔ x ∈ aboveL p.1.gs line) ∧ l.length ≤ 1 + (p.1.gs.flatMap Gt.ps).length) := by
  have hgl : p.1.gs.length ≤ 60 := by
    have := W.len
    simp only [lin, linesOf, List.length_append, List.length_map] at this
    omega
  have hpl : p.2.length = p.1.gs.length := W.perm.length_eq
  obtain ⟨cl, cx⟩ := aboveL_clo W line
  unfold m_law_above b_law_above
  simp only [R.bind_ok]
  rw [R.need_pos (by omega)]
  simp only [R.bind_ok, Int.toNat_natCast]
  rw [holds_fin, holds_bindC]
  refine holds_rng (fun (v : List Str) i => line ∈ v ∧ (∀ x ∈ v, x ∈ aboveL p.1.gs line) ∧ v.length + cnt (p.1.gs.flatMap Gt.ps) v ≤ 1 + (p.1.gs.flatMap Gt.ps).length ∧ ∀ j g, p.2.length - i ≤ j → p.2[j]? = some g → g.l ∈ v → ∀ x ∈ g.ps, x ∈ v) 0 _ _ ⟨List.mem_cons_self, fun x h => by cases List.mem_singleton.mp h; exact cx, by have := cnt_le (p.1.gs.flatMap Gt.ps) [line]; rw [List.length_singleton]; omega, fun j g h h2 => by have := get_lt h2; omega⟩ (fun v0 i hi H => ?_) (fun v H => ?_)
  · obtain ⟨Hl, Ha, Hn, Hc⟩ := H
    rw [holds_bindC]
    refine holds_forD (fun (v : List Str) pre => (∀ x ∈ v0, x ∈ v) ∧ (∀ x ∈ v, x ∈ aboveL p.1.gs line) ∧ v.length + cnt (p.1.gs.flatMap Gt.ps) v ≤ 1 + (p.1.gs.flatMap Gt.ps).length ∧ (∀ x ∈ v, x ∈ v0 ∨ Low p (p.2.length - i - 1) x) ∧ ∀ g ∈ pre, g.l ∈ v0 → ∀ x ∈ g.ps, x ∈ v) _ _ ⟨fun x h => h, Ha, Hn, fun x h => .inl h, fun g h => nomatch h⟩ (fun v pre g post eq H => ?_) (fun v H => ?_)
    · obtain ⟨Hs, Hb, Hm, Hw, Hd⟩ := H
      have hg : g ∈ p.1.gs := by rw [show p.1.gs = pre ++ g :: post from eq]; simp
      have hps : g.ps.length ≤ 4 := W.ok.2.2.2.2 g hg
      by_cases hk : g.l ∈ v
      · rw [decide_eq_true hk]
        simp only [if_true, R.bind_ok]
        rw [R.lcR_on (p := fun x => !decide (x ∈ v)) (v := fun x => x) (by omega) (fun x _ => rfl) fun x _ _ => rfl]
        simp only [R.nox_ok, R.bind_ok, List.map_id']
        have hst := cnt_step (show p.1.gs = pre ++ g :: post from eq) v
        have hfl : (newP v g.ps).length ≤ g.ps.length := List.length_filter_le _ _
        rw [catR_ok (by show v.length + (newP v g.ps).length ≤ _; omega), R.bind_ok, R.bindC_nx, holds_ok, onF_nx]
        refine ⟨fun x hx => List.mem_append_left _ (Hs x hx), fun x hx => ?_, ?_, fun x hx => ?_, fun g' hg' hl x hx => ?_⟩
        · rcases List.mem_append.mp hx with h | h
          · exact Hb x h
          · exact cl g hg (Hb _ hk) x (List.mem_filter.mp h).1
        · show (v ++ newP v g.ps).length + cnt _ (v ++ newP v g.ps) ≤ _
          rw [List.length_append]
          omega
        · rcases List.mem_append.mp hx with h | h
          · exact Hw x h
          · have h := (List.mem_filter.mp h).1
            by_cases h2 : x ∈ v
            · exact Hw x h2
            obtain ⟨j, hj⟩ := List.getElem?_of_mem (W.perm.mem_iff.mpr hg)
            by_cases hji : p.2.length - i ≤ j
            · exfalso
              refine h2 (Hs x (Hc j g hji hj ?_ x h))
              rcases Hw _ hk with z | z
              · exact z
              · exact absurd z (not_low W hj (by omega))
            · exact .inr ((low_pins W hj x h).mono (by omega))
        · rcases List.mem_append.mp hg' with h | h
          · exact List.mem_append_left _ (Hd g' h hl x hx)
          · cases List.mem_singleton.mp h
            exact newP_mem hx
      · rw [decide_eq_false hk]
        simp only [Bool.false_eq_true, if_false, R.bind_ok, R.bindC_nx]
        rw [holds_ok, onF_nx]
        refine ⟨Hs, Hb, Hm, Hw, fun g' hg' hl x hx => ?_⟩
        rcases List.mem_append.mp hg' with h | h
        · exact Hd g' h hl x hx
        · cases List.mem_singleton.mp h
          exact absurd (Hs _ hl) hk
    · obtain ⟨Hs, Hb, Hm, Hw, Hd⟩ := H
      rw [onC_nx, holds_ok, onF_nx]
      refine ⟨Hs _ Hl, Hb, Hm, fun j g hj hg hl x hx => ?_⟩
      have hlow : g.l ∈ v0 := (Hw _ hl).resolve_right (not_low W hg (by omega))
      by_cases h : p.2.length - i ≤ j
      · exact Hs x (Hc j g h hg hlow x hx)
      · exact Hd g (W.perm.subset (List.mem_of_getElem? hg)) hlow x hx
  · rw [onC_nx, holds_ok, onR_rt]
    obtain ⟨Hl, Ha, Hn, Hc⟩ := H
    refine ⟨fun x => ⟨Ha x, fun hx => ?_⟩, by omega⟩
    refine aboveL_sub (S := v) (fun g hg hl => ?_) Hl x hx
    obtain ⟨j, hj⟩ := List.getElem?_of_mem (W.perm.mem_iff.mpr hg)
    exact Hc j g (by rw [hpl]; omega) hj hl
theorem abStep_nd : ∀ (ps : List Str) (s : List Str × List Str), s.1.Nodup → (ps.foldl abStep s).1.Nodup
  | [], s, h => h
  | p :: ps, s, h => by
    rw [List.foldl_cons]
    refine abStep_nd ps _ ?_
    unfold abStep
    split
    · exact h
    · rename_i hp
      refine List.nodup_append.mpr ⟨h, by simp, fun a ha b hb e => ?_⟩
      cases List.mem_singleton.mp hb
      exact hp (e ▸ ha)
theorem abN_nd {gs : List Gt} : ∀ (n : Nat) (f ws : List Str), f.Nodup → (abN gs n f ws).Nodup
  | 0, f, ws, h => h
  | n + 1, f, ws, h => by
    unfold abN
    cases ws.getLast? with
    | none => exact h
    | some x => exact abN_nd n _ _ (abStep_nd _ _ h)
theorem aboveL_nd (gs : List Gt) (x : Str) : (aboveL gs x).Nodup := abN_nd _ _ _ (by simp)
theorem aboveL_lin {p : CV} (W : Wf p) {x : Str} (h : x ∈ lin p) : ∀ y ∈ aboveL p.1.gs x, y ∈ lin p := aboveL_sub (fun g hg _ y hy => W.pin_lin hg y hy) h
theorem nodup_len : ∀ {a b : List Str}, a.Nodup → (∀ x ∈ a, x ∈ b) → a.length ≤ b.length
  | [], _, _, _ => Nat.zero_le _
  | x :: a, b, n, s => by
    obtain ⟨n1, n2⟩ := List.nodup_cons.mp n
    have hx := s x List.mem_cons_self
    have := nodup_len (b := b.erase x) n2 fun y hy => (List.mem_erase_of_ne (fun e : y = x => n1 (by rw [← e]; exact hy))).mpr (s y (List.mem_cons_of_mem _ hy))
    rw [List.length_erase_of_mem hx] at this
    have := List.length_pos_of_mem hx
    rw [List.length_cons]
    omega
theorem all_okStr : ∀ x ∈ ALL, okStr x = true := by decide +kernel
theorem pre_law (xs : List Int) {most : Nat} (h1 : 1 ≤ most) (h2 : most ≤ 4) : Pre (partsL xs most) where
  ok := parts_ok h1 h2
  nd := (lines_perm xs most).nodup_iff.mpr (known_nodup xs most)
  len := Nat.le_trans lines_len (by omega)
  sl := by
    have := lines_len (xs := xs) (most := most)
    unfold linesOf at this
    rw [List.length_append] at this
    omega
  nm := fun x hx => by
    have h := known_all (lines_known.mp hx)
    exact ⟨(all_names x h).1, all_okStr x h, (all_names x h).2⟩
  kd := fun g hg => by
    obtain ⟨k, _, rfl⟩ := gs_mem.mp hg
    have := gate_form (rich (cellI xs (1 + k)) k) (k0 xs most ++ (List.range k).map gn) (gn k)
    exact ⟨this.1, this.2.1⟩
  us := fun y hy => lines_known.mpr (law_uses h1 h2 y hy)
  rk := ⟨fun g => ((List.range 7).map gn).idxOf g.l, fun g hg p hp => by
    obtain ⟨k, hk, rfl⟩ := gs_mem.mp hg
    rw [src_k0]
    rcases List.mem_append.mp (gat_ps h1 h2 p hp) with z | z
    · exact .inl z
    · obtain ⟨j, hj, rfl⟩ := List.mem_map.mp z
      have hj := List.mem_range.mp hj
      have hn := (nG_le xs).2
      refine .inr ⟨gAt xs most j, gs_mem.mpr ⟨j, by omega, rfl⟩, gate_l _ _ _, ?_⟩
      show ((List.range 7).map gn).idxOf (gAt xs most j).l < ((List.range 7).map gn).idxOf (gAt xs most k).l
      have e1 : (gAt xs most j).l = gn j := gate_l _ _ _
      have e2 : (gAt xs most k).l = gn k := gate_l _ _ _
      rw [e1, e2, rk_gn j (by omega), rk_gn k (by omega)]
      exact hj⟩
theorem flat_le {gs : List Gt} : (∀ g ∈ gs, g.ps.length ≤ 4) → (gs.flatMap Gt.ps).length ≤ 4 * gs.length := by
  induction gs with
  | nil => intro _; simp
  | cons g gs ih =>
    intro h
    rw [List.flatMap_cons, List.length_append, List.length_cons]
    have := h g List.mem_cons_self
    have := ih fun g hg => h g (List.mem_cons_of_mem _ hg)
    omega
end
end CC
set_option maxHeartbeats 1000000
namespace CC
open PySem PySem.Spec PyProof.Rows L2 Qw Mw RZ
open Evl hiding ea_cons
open Pw (Dt Rp RpL Wk R2d R1d RLd RLn Kq KqL spX2 Xm Xm0 cr_int cr_min2 cr_max2 cr_list cr_tuple rTupS cr_len pe_globI pe_globS pe_globR pe_tyname)
section
theorem ne_self {α : Type} [DecidableEq α] {o : α → Bool} {a : α} (h : o a = true) : neSR o a a = .ok false := by
  unfold neSR
  rw [R.need_pos (Bool.and_eq_true_iff.mpr ⟨h, h⟩), decide_eq_true rfl]
  rfl
theorem notIn_gates {gs : List Gt} {g : Gt} (hg : g ∈ gs) (ho : ∀ g ∈ gs, okGt g = true) : notInDR (Gt.d g) ((eL Gt.d) gs) = .ok false := by
  obtain ⟨p, h1, h2, h3, h4⟩ := pyS_gt
  have e1 : Pw.py ((eL Gt.d) gs) = some (.list (gs.map p)) := by
    show (Pw.pyL (gs.map Gt.d)).map PyData.list = _
    rw [pyL_map h1]
    rfl
  have s1 : SeqAt.shaped (p g) = true := by
    unfold SeqAt.shaped
    rw [h2 g (ho g hg), decide_eq_true (by have := h3 g; omega)]
    rfl
  have s2 : SeqAt.shaped (.list (gs.map p)) = true := by
    have c1 : (PyData.list (gs.map p)).canLay0 = true := layAll_mapO h2 gs (List.all_eq_true.mpr ho)
    have c2 : (PyData.list (gs.map p)).depth ≤ 64 := by
      rw [PyData.depth]
      have := depthAll_map h3 gs
      omega
    unfold SeqAt.shaped
    rw [c1, decide_eq_true c2]
    rfl
  have s3 : ((gs.map p).any fun z => PyData.eqv z (p g)) = true := List.any_eq_true.mpr ⟨p g, List.mem_map_of_mem hg, (h4 g g).mpr rfl⟩
  unfold notInDR
  rw [h1 g, e1]
  simp only [s1, s2, Bool.and_self, if_true, s3, Bool.not_true]
theorem sortS_perm_eq {a b : List Str} (h : a.Perm b) : sortS a = sortS b := sortS_uniq ((sortS_perm a).trans h) (sortS_pw a)
theorem gof_get {gs : List Gt} {g : Gt} (nd : (gs.map Gt.l).Nodup) (hg : g ∈ gs) : getR (gofL gs) g.l = .ok g := by
  unfold getR getV gofL
  rw [List.find?_map]
  have hf : (gs.find? ((fun p : Str × Gt => decide (p.1 = g.l)) ∘ fun g => (g.l, g))) = some g := by
    cases e : gs.find? ((fun p : Str × Gt => decide (p.1 = g.l)) ∘ fun g => (g.l, g)) with
    | none =>
      have := List.find?_eq_none.mp e g hg
      simp at this
    | some g' =>
      have h1 : g'.l = g.l := by simpa using List.find?_some e
      rw [nodup_inj nd g' (List.mem_of_find?_eq_some e) g hg h1]
  rw [hf]
  rfl
theorem kinds_same : eqSR (fun xs : List Str => xs.all okStr) (G_KINDS : List Str) ([("and" : Str), ("or" : Str), ("nand" : Str), ("nor" : Str), ("xor" : Str), ("xnor" : Str), ("not" : Str), ("buf" : Str), ("low" : Str), ("high" : Str)] : (List Str)) = .ok true := by
  unfold eqSR
  have h : ((fun xs : List Str => xs.all okStr) (G_KINDS : List Str) && (fun xs : List Str => xs.all okStr) ([("and" : Str), ("or" : Str), ("nand" : Str), ("nor" : Str), ("xor" : Str), ("xnor" : Str), ("not" : Str), ("buf" : Str), ("low" : Str), ("high" : Str)] : (List Str))) = true := by decide +kernel
  rw [R.need_pos h]
  rfl
theorem kin_okStr : ∀ k ∈ KIN, okStr k = true := by decide +kernel
theorem law_true (xs : List Int) : m_law xs = .ok true := by
  rw [← holds_eq]
  obtain ⟨p, hp, W, hm⟩ := (pre_law xs (most := 4) (by omega) (by omega)).made
  have hU : (p.1.gs.flatMap Gt.ps).length ≤ 28 := by
    have h1 := flat_le (gs := p.1.gs) fun g hg => W.ok.2.2.2.2 g hg
    have h2 : p.1.gs.length ≤ 7 := by rw [hp, gs_len]; exact (nG_le xs).2
    omega
  have hlin : (lin p).length ≤ 13 := by
    show (linesOf p.1.is p.1.rs p.1.gs).length ≤ 13
    rw [hp]
    exact lines_len
  have hparts : m_law_parts xs 4 = .ok (p.1.is, p.1.rs, p.1.gs, p.1.os) := by
    unfold m_law_parts
    rw [R.need_pos (by omega), hp]
    rfl
  rw [← hp] at hm
  clear hp
  unfold m_law b_law
  simp only [R.bind_ok]
  rw [hparts]
  simp only [R.bind_ok, R.nox_ok]
  rw [hm]
  simp only [R.bind_ok, R.nox_ok]
  have l1 : p.1.rs.length ≤ 1000 := W.ok.2.1
  have l2 : p.1.gs.length ≤ 1000 := W.ok.2.2.1
  have l3 : p.1.os.length ≤ 1000 := W.ok.2.2.2.1
  have l0 : p.1.is.length ≤ 1000 := W.ok.1
  rw [R.lcR_mapOn (v := Prod.fst) (by omega) fun _ _ => rfl]
  simp only [R.nox_ok, R.bind_ok]
  rw [catR_ok (by rw [List.length_map]; omega)]
  simp only [R.bind_ok]
  rw [show p.1.is ++ p.1.rs.map Prod.fst = src p from rfl]
  rw [R.lcR_mapOn (v := Gt.l) (by omega) fun _ _ => rfl]
  simp only [R.nox_ok, R.bind_ok]
  have l4 : (src p).length ≤ 13 := by
    have : (lin p).length = (src p).length + (p.1.gs.map Gt.l).length := List.length_append
    omega
  rw [catR_ok (by rw [List.length_map]; omega)]
  simp only [R.bind_ok]
  rw [show src p ++ p.1.gs.map Gt.l = lin p from rfl]
  rw [R.lcR_mapOn (v := Prod.snd) (by omega) fun _ _ => rfl]
  simp only [R.nox_ok, R.bind_ok]
  rw [catR_ok (by rw [List.length_map]; omega)]
  simp only [R.bind_ok]
  rw [show p.1.os ++ p.1.rs.map Prod.snd = sinkOf p.1.os p.1.rs from rfl]
  have hL : m_Circuit_lines p = .ok (lin p) := R.need_pos W.ok
  have hS : m_Circuit_sources p = .ok (src p) := R.need_pos W.ok
  have hK : m_Circuit_sinks p = .ok (sinkOf p.1.os p.1.rs) := R.need_pos W.ok
  have hP : m_Circuit_parts p = .ok (p.1.is, p.1.rs, p.1.gs, p.1.os) := R.need_pos W.ok
  rw [hL, hS, hK]
  simp only [R.nox_ok, R.bind_ok]
  have okL : ∀ x ∈ lin p, okStr x = true := fun x hx => (W.nm x hx).2.1
  have okA : ∀ l : List Str, (∀ x ∈ l, x ∈ lin p) → l.all okStr = true := fun l h => List.all_eq_true.mpr fun x hx => okL x (h x hx)
  have aL : (lin p).all okStr = true := okA _ fun x h => h
  have aS : (src p).all okStr = true := okA _ fun x h => List.mem_append_left _ h
  have aK : (sinkOf p.1.os p.1.rs).all okStr = true := okA _ W.sk
  have a3 : (fun xs : List (List Str) => xs.all fun xs => xs.all okStr) [lin p, src p, sinkOf p.1.os p.1.rs] = true := by
    show ((lin p).all okStr && ((src p).all okStr && ((sinkOf p.1.os p.1.rs).all okStr && true))) = true
    rw [aL, aS, aK]
    rfl
  rw [ne_self (o := fun xs : List (List Str) => xs.all fun xs => xs.all okStr) (a := [lin p, src p, sinkOf p.1.os p.1.rs]) a3]
  simp only [R.bind_ok, Bool.false_eq_true, if_false]
  have l5 : (sinkOf p.1.os p.1.rs).length ≤ 2000 := by
    unfold sinkOf
    rw [List.length_append, List.length_map]
    omega
  rw [R.need_pos (by omega), R.need_pos (by omega), R.need_pos (by omega)]
  simp only [R.bind_ok]
  rw [hP]
  simp only [R.nox_ok, R.bind_ok]
  have okG : ∀ g ∈ p.1.gs, okGt g = true := fun g hg => by
    show (okStr g.l && (okStr g.k && g.ps.all okStr)) = true
    rw [okL _ (lin_gs hg), kin_okStr _ (W.kd g hg).1, okA _ fun x hx => W.pin_lin hg x hx]
    rfl
  have a4 : (fun x : List Str × List (Str × Str) × List Gt × List Str => x.1.all okStr && ((x.2.1.all fun x => okStr x.1 && okStr x.2) && (x.2.2.1.all okGt && x.2.2.2.all okStr))) (p.1.is, p.1.rs, p.1.gs, p.1.os) = true := by
    show (p.1.is.all okStr && (p.1.rs.all (fun x => okStr x.1 && okStr x.2) && (p.1.gs.all okGt && p.1.os.all okStr))) = true
    rw [okA p.1.is fun x hx => List.mem_append_left _ (List.mem_append_left _ hx), okA p.1.os fun x hx => W.sk x (List.mem_append_left _ hx), List.all_eq_true.mpr okG]
    rw [show (p.1.rs.all fun x => okStr x.1 && okStr x.2) = true from List.all_eq_true.mpr fun r hr => by
      rw [okL r.1 (List.mem_append_left _ (List.mem_append_right _ (List.mem_map_of_mem hr))), okL r.2 (W.sk _ (List.mem_append_right _ (List.mem_map_of_mem hr)))]
      rfl]
    rfl
  rw [ne_self (o := fun x : List Str × List (Str × Str) × List Gt × List Str => x.1.all okStr && ((x.2.1.all fun x => okStr x.1 && okStr x.2) && (x.2.2.1.all okGt && x.2.2.2.all okStr))) (a := (p.1.is, p.1.rs, p.1.gs, p.1.os)) a4]
  simp only [R.bind_ok, Bool.false_eq_true, if_false]
  rw [holds_fin, holds_bindC]
  refine holds_forD (fun known pre => known = src p ++ pre.map Gt.l) _ _ (by rw [List.map_nil, List.append_nil]) (fun known pre g post eq H => ?_) (fun known H => ?_)
  · have hg : g ∈ p.1.gs := W.perm.subset (by rw [eq]; simp)
    rw [notIn_gates hg okG]
    simp only [R.bind_ok, Bool.false_eq_true, if_false]
    have hn : ¬ g.l ∈ known := fun z => by
      rw [H] at z
      rcases List.mem_append.mp z with z | z
      · exact (List.nodup_append.mp W.nd).2.2 _ z _ (List.mem_map_of_mem hg) rfl
      · have n2 := ord_nd W
        rw [eq, List.map_append, List.map_cons] at n2
        exact (List.nodup_append.mp n2).2.2 g.l z g.l List.mem_cons_self rfl
    rw [decide_eq_false hn]
    simp only [Bool.false_eq_true, if_false]
    rw [holds_bindC]
    refine holds_forD (fun _ _ => True) _ _ trivial (fun _ pre2 x post2 eq2 _ => ?_) (fun _ _ => ?_)
    · have hx : x ∈ g.ps := by rw [eq2]; simp
      have hk : x ∈ known := by
        rw [H]
        exact List.mem_append.mpr (W.od pre g post eq x hx)
      rw [decide_eq_true hk]
      simp only [Bool.not_true, Bool.false_eq_true, if_false]
      exact holds_ok.mpr (onF_nx.mpr trivial)
    · rw [onC_nx]
      have hlen : pre.length ≤ 1000 := by
        have := congrArg List.length eq
        rw [W.perm.length_eq, List.length_append] at this
        omega
      rw [R.need_pos (by rw [List.length_map, H, List.length_append, List.length_map]; omega)]
      refine holds_ok.mpr (onF_nx.mpr ?_)
      rw [H, List.map_append, List.append_assoc]
      rfl
  · rw [onC_nx]
    have perm : known.Perm (lin p) := by
      rw [H]
      exact List.Perm.append_left _ (W.perm.map _)
    have hkl : known.length ≤ 13 := by rw [perm.length_eq]; exact hlin
    unfold sortSR
    rw [R.need_pos (by omega), R.need_pos (by omega)]
    simp only [R.bind_ok]
    rw [sortS_perm_eq perm, ne_self (o := fun xs : List Str => xs.all okStr) (okA _ fun x hx => (sortS_perm _).mem_iff.mp hx)]
    simp only [R.bind_ok, Bool.false_eq_true, if_false]
    rw [show (gofL p.1.gs).length = p.1.gs.length from List.length_map _, decide_eq_true rfl]
    simp only [Bool.not_true, Bool.false_eq_true, if_false]
    rw [holds_bindC]
    refine holds_forD (fun _ _ => True) _ _ trivial (fun _ pre g post eq _ => ?_) (fun _ _ => ?_)
    · have hg : g ∈ p.1.gs := by rw [eq]; simp
      rw [gof_get (List.nodup_append.mp W.nd).2.1 hg]
      simp only [R.bind_ok]
      rw [ne_self (okG g hg)]
      simp only [R.bind_ok, Bool.false_eq_true, if_false]
      exact holds_ok.mpr (onF_nx.mpr trivial)
    · rw [onC_nx, holds_bindC]
      refine holds_forD (fun _ _ => True) _ _ trivial (fun _ pre x post eq _ => ?_) (fun _ _ => ?_)
      · have hx : x ∈ lin p := by rw [eq]; simp
        have hA : m_Circuit_above p x = .ok ((aboveL p.1.gs x).map fun y => (y, true)) := R.need_pos W.ok
        rw [hA]
        simp only [R.nox_ok, R.bind_ok]
        rw [show ((aboveL p.1.gs x).map fun y => (y, true)).map Prod.fst = aboveL p.1.gs x from by rw [List.map_map]; exact List.map_id' _]
        have al := aboveL_lin W hx
        have alen : (aboveL p.1.gs x).length ≤ 13 := Nat.le_trans (nodup_len (aboveL_nd _ _) al) hlin
        rw [R.need_pos (by omega)]
        simp only [R.bind_ok]
        obtain ⟨la, e, hla, hll⟩ := (law_above_ok W (by omega) (line := x)).ex
        rw [e]
        simp only [R.nox_ok, R.bind_ok]
        unfold sortTR
        rw [R.need_pos (by omega)]
        simp only [R.bind_ok]
        have pe : (onceS la).Perm (aboveL p.1.gs x) := (List.perm_ext_iff_of_nodup (once_nd la) (aboveL_nd _ _)).mpr fun y => by rw [once_mem, hla]
        rw [sortS_perm_eq pe, ne_self (o := fun xs : List Str => xs.all okStr) (okA _ fun y hy => al y ((sortS_perm _).mem_iff.mp hy))]
        simp only [R.bind_ok, Bool.false_eq_true, if_false]
        exact holds_ok.mpr (onF_nx.mpr trivial)
      · rw [onC_nx, kinds_same]
        simp only [R.bind_ok]
        exact holds_ok.mpr (onR_rt.mpr rfl)
end
end CC
set_option maxHeartbeats 4000000
namespace CC
open PySem PySem.Spec PyProof.Rows L2 Qw Mw
open Evl hiding ea_cons
open Pw (Dt Rp RpL Wk spX2 Xm Xm0)
section
variable {P : Program} {w : World} {K : PySem.W.Frag} {mg : Str → Option Value} {base : Heap}
theorem sc_iBadCircuit : FnScope [("self" : Str), "reason", "name"] [("self" : Str), "reason", "name"] (defScope s_iBadCircuit) := ⟨rfl, rfl, rfl, by decide +kernel, rfl, by decide +kernel, by decide +kernel⟩
theorem xm_BadCircuit {C fI : Addr} {fd : FuncData} (F : FunD K "__init__" "BadCircuit.__init__" (defArgs s_iBadCircuit) (defBody s_iBadCircuit) (defScope s_iBadCircuit) [] [] fI fd) (hm : mg "BadCircuit" = some (.ref C)) (T : OexC K C) (iC : PySem.W.findIn K (.ref C) "__init__" = some (some (.ref fI))) (tI : PySem.W.typeIn K (.ref fI) = some (.type "function"))
    (n1 : PySem.W.findIn K (.ref C) "reason" = some none) (n2 : PySem.W.findIn K (.ref C) "name" = some none) : Xm P w K mg base "BadCircuit" C (spX2 C "reason" "name") :=
  ⟨fI, fd, [("self" : Str), "reason", "name"], hm, T, iC, tI, F.bindsN fun _ _ _ _ _ _ us hl => match us, hl with | [_, _, _], _ => rfl,
    init2c F sc_iBadCircuit T n1 n2 fun cdv A outer s H E => pss_cons (ps_ost (pv 0) (pv 1)) (pss_one (ps_ost (pv 0) (pv 2)))⟩
theorem lawOk {h : Heap} (X : K.In h) (G : h.Ns mainGlobals mg) (c : He.SaysD faL fnL K) (m : exB K = true) : ∀ base : Heap, FxL P w K mg base 7 "law" ["script"] (spR P w K (R_law K)) s_law := by
  intro base
  unfold exB at m
  simp only [List.all_cons, List.all_nil, id, Bool.and_eq_true, decide_eq_true_eq, and_true] at m
  obtain ⟨m0, m1, m2, m3, m4⟩ := m
  have T : Txt K mg := {
    f_all := He.free_ok X G (c.fact 35 (f := .free "all") rfl)
    f_int := He.free_ok X G (c.fact 36 (f := .free "int") rfl)
    f_isinstance := He.free_ok X G (c.fact 37 (f := .free "isinstance") rfl)
    f_len := He.free_ok X G (c.fact 38 (f := .free "len") rfl)
    f_list := He.free_ok X G (c.fact 39 (f := .free "list") rfl)
    f_min := He.free_ok X G (c.fact 40 (f := .free "min") rfl)
    f_range := He.free_ok X G (c.fact 41 (f := .free "range") rfl)
    f_set := He.free_ok X G (c.fact 42 (f := .free "set") rfl)
    f_sorted := He.free_ok X G (c.fact 43 (f := .free "sorted") rfl)
    f_str := He.free_ok X G (c.fact 44 (f := .free "str") rfl)
    f_tuple := He.free_ok X G (c.fact 45 (f := .free "tuple") rfl)
    g_MOST_NAME := He.int_ok X G (c.fact 46 (f := .int "MOST_NAME" 12) rfl)
    g_MOST_PINS := He.int_ok X G (c.fact 47 (f := .int "MOST_PINS" 4) rfl)
    g_MOST_LINES := He.int_ok X G (c.fact 48 (f := .int "MOST_LINES" 400) rfl)
    g_MOST_SOURCES := He.int_ok X G (c.fact 49 (f := .int "MOST_SOURCES" 40) rfl)
    g__LETTERS := He.str_ok X G (c.fact 50 (f := .str "_LETTERS" "abcdefghijklmnopqrstuvwxyz") rfl)
    g__CHARACTERS := He.str_ok X G (c.fact 51 (f := .str "_CHARACTERS" "abcdefghijklmnopqrstuvwxyz0123456789_") rfl)
    g_KINDS := He.glo_ok X G (c.fact 26 (f := .glo "KINDS") rfl)
    t_KINDS := fun H => by
      have := He.tupB_ok m4 H
      have e : kinD.map (He.Dv.v K) = KIN.map V.str := by unfold kinD; rw [List.map_map]; rfl
      rw [e] at this
      exact this
    k_Circuit := He.cls_ok (c.fact 27 (f := .cls "Circuit") rfl)
    a_Circuit := fun f hf => by
      simp only [List.mem_cons, List.not_mem_nil, or_false] at hf
      rcases hf with rfl | rfl | rfl | rfl | rfl | rfl
      · exact He.noat_ok (c.fact 29 (f := .noat "Circuit" "inputs") rfl)
      · exact He.noat_ok (c.fact 30 (f := .noat "Circuit" "registers") rfl)
      · exact He.noat_ok (c.fact 31 (f := .noat "Circuit" "gates") rfl)
      · exact He.noat_ok (c.fact 32 (f := .noat "Circuit" "outputs") rfl)
      · exact He.noat_ok (c.fact 33 (f := .noat "Circuit" "gate_of") rfl)
      · exact He.noat_ok (c.fact 34 (f := .noat "Circuit" "order") rfl)
    c_BadCircuit := He.glo_ok X G (c.fact 23 (f := .glo "BadCircuit") rfl)
    x_BadCircuit := xfB_ok m3
    n_reason := He.noat_ok (c.fact 24 (f := .noat "BadCircuit" "reason") rfl)
    n_name := He.noat_ok (c.fact 25 (f := .noat "BadCircuit" "name") rfl)
    e_BadCircuit := He.exm_ok (c.fact 28 (f := .exm "BadCircuit" "BadCircuit" true) rfl) }
  have X_BadCircuit : Xm P w K mg base "BadCircuit" (He.ga K "BadCircuit") (spX2 (He.ga K "BadCircuit") "reason" "name") := by
    obtain ⟨fd, F⟩ := c.def_ 22 (d := dd_iBadCircuit) rfl
    exact xm_BadCircuit F (He.glo_ok X G (c.fact 23 (f := .glo "BadCircuit") rfl)) (oexB_ok m0) m1 m2 (He.noat_ok (c.fact 24 (f := .noat "BadCircuit" "reason") rfl)) (He.noat_ok (c.fact 25 (f := .noat "BadCircuit" "name") rfl))
  have D_is_name : Dx K mg "is_name" ["value"] s_is_name := by
    obtain ⟨fd, F⟩ := c.def_ 0 (d := dd_is_name) rfl
    exact ⟨_, fd, He.glo_ok X G (c.fact 0 (f := .glo "is_name") rfl), F, F.bindsN fun _ _ _ _ _ _ us hl => match us, hl with | [_], _ => rfl⟩
  have D_may_have : Dx K mg "_may_have" ["kind", "count"] s_may_have := by
    obtain ⟨fd, F⟩ := c.def_ 1 (d := dd_may_have) rfl
    exact ⟨_, fd, He.glo_ok X G (c.fact 1 (f := .glo "_may_have") rfl), F, F.bindsN fun _ _ _ _ _ _ us hl => match us, hl with | [_, _], _ => rfl⟩
  have D_are_names : Dx K mg "_are_names" ["items"] s_are_names := by
    obtain ⟨fd, F⟩ := c.def_ 2 (d := dd_are_names) rfl
    exact ⟨_, fd, He.glo_ok X G (c.fact 2 (f := .glo "_are_names") rfl), F, F.bindsN fun _ _ _ _ _ _ us hl => match us, hl with | [_], _ => rfl⟩
  have D_is_register : Dx K mg "_is_register" ["value"] s_is_register := by
    obtain ⟨fd, F⟩ := c.def_ 3 (d := dd_is_register) rfl
    exact ⟨_, fd, He.glo_ok X G (c.fact 3 (f := .glo "_is_register") rfl), F, F.bindsN fun _ _ _ _ _ _ us hl => match us, hl with | [_], _ => rfl⟩
  have D_is_gate : Dx K mg "is_gate" ["value"] s_is_gate := by
    obtain ⟨fd, F⟩ := c.def_ 4 (d := dd_is_gate) rfl
    exact ⟨_, fd, He.glo_ok X G (c.fact 4 (f := .glo "is_gate") rfl), F, F.bindsN fun _ _ _ _ _ _ us hl => match us, hl with | [_], _ => rfl⟩
  have D_check_form : Dx K mg "_check_form" ["inputs", "registers", "gates", "outputs"] s_check_form := by
    obtain ⟨fd, F⟩ := c.def_ 5 (d := dd_check_form) rfl
    exact ⟨_, fd, He.glo_ok X G (c.fact 5 (f := .glo "_check_form") rfl), F, F.bindsN fun _ _ _ _ _ _ us hl => match us, hl with | [_, _, _, _], _ => rfl⟩
  have D_check_driven_once : Dx K mg "_check_driven_once" ["lines"] s_check_driven_once := by
    obtain ⟨fd, F⟩ := c.def_ 6 (d := dd_check_driven_once) rfl
    exact ⟨_, fd, He.glo_ok X G (c.fact 6 (f := .glo "_check_driven_once") rfl), F, F.bindsN fun _ _ _ _ _ _ us hl => match us, hl with | [_], _ => rfl⟩
  have D_check_known : Dx K mg "_check_known" ["lines", "names"] s_check_known := by
    obtain ⟨fd, F⟩ := c.def_ 7 (d := dd_check_known) rfl
    exact ⟨_, fd, He.glo_ok X G (c.fact 7 (f := .glo "_check_known") rfl), F, F.bindsN fun _ _ _ _ _ _ us hl => match us, hl with | [_, _], _ => rfl⟩
  have D_check_size : Dx K mg "_check_size" ["lines", "sources"] s_check_size := by
    obtain ⟨fd, F⟩ := c.def_ 8 (d := dd_check_size) rfl
    exact ⟨_, fd, He.glo_ok X G (c.fact 8 (f := .glo "_check_size") rfl), F, F.bindsN fun _ _ _ _ _ _ us hl => match us, hl with | [_, _], _ => rfl⟩
  have D_in_order : Dx K mg "_in_order" ["sources", "gates"] s_in_order := by
    obtain ⟨fd, F⟩ := c.def_ 9 (d := dd_in_order) rfl
    exact ⟨_, fd, He.glo_ok X G (c.fact 9 (f := .glo "_in_order") rfl), F, F.bindsN fun _ _ _ _ _ _ us hl => match us, hl with | [_, _], _ => rfl⟩
  have D_Circuit_lines : Dm K (He.ga K "Circuit") "lines" "Circuit.lines" ["self"] s_Circuit_lines := by
    obtain ⟨fd, F⟩ := c.def_ 10 (d := dd_Circuit_lines) rfl
    exact ⟨_, fd, He.meth_ok (c.fact 11 (f := .meth "Circuit" "lines") rfl), F, F.bindsN fun _ _ _ _ _ _ us hl => match us, hl with | [_], _ => rfl⟩
  have D_Circuit_sources : Dm K (He.ga K "Circuit") "sources" "Circuit.sources" ["self"] s_Circuit_sources := by
    obtain ⟨fd, F⟩ := c.def_ 11 (d := dd_Circuit_sources) rfl
    exact ⟨_, fd, He.meth_ok (c.fact 12 (f := .meth "Circuit" "sources") rfl), F, F.bindsN fun _ _ _ _ _ _ us hl => match us, hl with | [_], _ => rfl⟩
  have D_Circuit_sinks : Dm K (He.ga K "Circuit") "sinks" "Circuit.sinks" ["self"] s_Circuit_sinks := by
    obtain ⟨fd, F⟩ := c.def_ 12 (d := dd_Circuit_sinks) rfl
    exact ⟨_, fd, He.meth_ok (c.fact 13 (f := .meth "Circuit" "sinks") rfl), F, F.bindsN fun _ _ _ _ _ _ us hl => match us, hl with | [_], _ => rfl⟩
  have D_Circuit_init : Di K mg (He.ga K "Circuit") "Circuit" "Circuit.__init__" ["self", "inputs", "registers", "gates", "outputs"] s_Circuit_init := by
    obtain ⟨fd, F⟩ := c.def_ 13 (d := dd_Circuit_init) rfl
    exact ⟨_, fd, He.glo_ok X G (c.fact 10 (f := .glo "Circuit") rfl), He.mkr_ok (c.fact 14 (f := .mkr "Circuit") rfl), F, F.bindsN fun _ _ _ _ _ _ us hl => match us, hl with | [_, _, _, _, _], _ => rfl⟩
  have D_Circuit_above : Dm K (He.ga K "Circuit") "above" "Circuit.above" ["self", "line"] s_Circuit_above := by
    obtain ⟨fd, F⟩ := c.def_ 14 (d := dd_Circuit_above) rfl
    exact ⟨_, fd, He.meth_ok (c.fact 15 (f := .meth "Circuit" "above") rfl), F, F.bindsN fun _ _ _ _ _ _ us hl => match us, hl with | [_, _], _ => rfl⟩
  have D_Circuit_parts : Dm K (He.ga K "Circuit") "parts" "Circuit.parts" ["self"] s_Circuit_parts := by
    obtain ⟨fd, F⟩ := c.def_ 15 (d := dd_Circuit_parts) rfl
    exact ⟨_, fd, He.meth_ok (c.fact 16 (f := .meth "Circuit" "parts") rfl), F, F.bindsN fun _ _ _ _ _ _ us hl => match us, hl with | [_], _ => rfl⟩
  have D_law_cell : Dx K mg "_law_cell" ["script", "k"] s_law_cell := by
    obtain ⟨fd, F⟩ := c.def_ 16 (d := dd_law_cell) rfl
    exact ⟨_, fd, He.glo_ok X G (c.fact 17 (f := .glo "_law_cell") rfl), F, F.bindsN fun _ _ _ _ _ _ us hl => match us, hl with | [_, _], _ => rfl⟩
  have D_law_rich : Dx K mg "_law_rich" ["cell", "k"] s_law_rich := by
    obtain ⟨fd, F⟩ := c.def_ 17 (d := dd_law_rich) rfl
    exact ⟨_, fd, He.glo_ok X G (c.fact 18 (f := .glo "_law_rich") rfl), F, F.bindsN fun _ _ _ _ _ _ us hl => match us, hl with | [_, _], _ => rfl⟩
  have D_law_gate : Dx K mg "_law_gate" ["rich", "known", "name"] s_law_gate := by
    obtain ⟨fd, F⟩ := c.def_ 18 (d := dd_law_gate) rfl
    exact ⟨_, fd, He.glo_ok X G (c.fact 19 (f := .glo "_law_gate") rfl), F, F.bindsN fun _ _ _ _ _ _ us hl => match us, hl with | [_, _, _], _ => rfl⟩
  have D_law_parts : Dx K mg "_law_parts" ["script", "most"] s_law_parts := by
    obtain ⟨fd, F⟩ := c.def_ 19 (d := dd_law_parts) rfl
    exact ⟨_, fd, He.glo_ok X G (c.fact 20 (f := .glo "_law_parts") rfl), F, F.bindsN fun _ _ _ _ _ _ us hl => match us, hl with | [_, _], _ => rfl⟩
  have D_law_above : Dx K mg "_law_above" ["gates", "line"] s_law_above := by
    obtain ⟨fd, F⟩ := c.def_ 20 (d := dd_law_above) rfl
    exact ⟨_, fd, He.glo_ok X G (c.fact 21 (f := .glo "_law_above") rfl), F, F.bindsN fun _ _ _ _ _ _ us hl => match us, hl with | [_, _], _ => rfl⟩
  have D_law : Dx K mg "law" ["script"] s_law := by
    obtain ⟨fd, F⟩ := c.def_ 21 (d := dd_law) rfl
    exact ⟨_, fd, He.glo_ok X G (c.fact 22 (f := .glo "law") rfl), F, F.bindsN fun _ _ _ _ _ _ us hl => match us, hl with | [_], _ => rfl⟩
  have G_is_name := k_is_name (P := P) (w := w) (base := base) T D_is_name 
  have G__may_have := k_may_have (P := P) (w := w) (base := base) T D_may_have 
  have G__are_names := k_are_names (P := P) (w := w) (base := base) T D_are_names G_is_name
  have G__is_register := k_is_register (P := P) (w := w) (base := base) T D_is_register G__are_names
  have G_is_gate := k_is_gate (P := P) (w := w) (base := base) T D_is_gate G__may_have G__are_names
  have G__check_form := k_check_form (P := P) (w := w) (base := base) T D_check_form G__are_names G__is_register G_is_gate X_BadCircuit
  have G__check_driven_once := k_check_driven_once (P := P) (w := w) (base := base) T D_check_driven_once X_BadCircuit
  have G__check_known := k_check_known (P := P) (w := w) (base := base) T D_check_known X_BadCircuit
  have G__check_size := k_check_size (P := P) (w := w) (base := base) T D_check_size X_BadCircuit
  have G__in_order := k_in_order (P := P) (w := w) (base := base) T D_in_order X_BadCircuit
  have M_Circuit_sources := k_Circuit_sources (P := P) (w := w) (base := base) T D_Circuit_sources 
  have M_Circuit_lines := k_Circuit_lines (P := P) (w := w) (base := base) T D_Circuit_lines M_Circuit_sources
  have M_Circuit_sinks := k_Circuit_sinks (P := P) (w := w) (base := base) T D_Circuit_sinks 
  have I_Circuit := k_Circuit_init (P := P) (w := w) (base := base) T D_Circuit_init G__check_form G__check_driven_once M_Circuit_lines G__check_known G__check_size M_Circuit_sources G__in_order
  have I_Circuit := ix_imp I_Circuit (ri_Circuit true false true false)
  have M_Circuit_above := k_Circuit_above (P := P) (w := w) (base := base) T D_Circuit_above 
  have M_Circuit_parts := k_Circuit_parts (P := P) (w := w) (base := base) T D_Circuit_parts 
  have G__law_cell := k_law_cell (P := P) (w := w) (base := base) T D_law_cell 
  have G__law_rich := k_law_rich (P := P) (w := w) (base := base) T D_law_rich 
  have G__law_gate := k_law_gate (P := P) (w := w) (base := base) T D_law_gate 
  have G__law_parts := k_law_parts (P := P) (w := w) (base := base) T D_law_parts G__law_cell G__law_gate G__law_rich
  have G__law_above := k_law_above (P := P) (w := w) (base := base) T D_law_above 
  exact k_law T D_law (fx_imp G__law_parts z_law_parts) I_Circuit (mx_imp M_Circuit_sinks z_Circuit_sinks) (mx_imp M_Circuit_sources z_Circuit_sources) (mx_imp M_Circuit_lines z_Circuit_lines) (mx_imp M_Circuit_parts z_Circuit_parts) (mx_imp M_Circuit_above z_Circuit_above) G__law_above
end
end CC
set_option maxHeartbeats 0
namespace CC
open PySem PySem.Spec PyProof.Rows L2 Qw Mw
open Pw (Dt Rp RpL Wk)
theorem ints_rel {K : PySem.W.Frag} {F : Hp} : ∀ ns : List Int, RpL K F (ns.map Dt.int) (ns.map V.int)
  | [] => rfl
  | n :: ns => ⟨V.int n, ns.map V.int, rfl, rfl, ints_rel ns⟩
theorem quiet {P : Program} {w : World} {K : PySem.W.Frag} {mg : Str → Option Value} {base : Heap} {k : Nat} {f : Addr} {fd : FuncData} {ps : List Str} {sp : Sp} (F : FnOk P w K mg base (L2.CX P w) k f fd ps sp) : FnOk P w K mg base CX0 k f fd ps (fun vs H Q _ => sp vs H Q E0) :=
  ⟨fun vs H Q _ h => F.len vs H Q E0 h, fun A outer s H args us vs Q E hr he hb hv h => codeAny_mono (F.run A outer s H args us vs Q E0 hr he hb hv h) fun r s' z => by
    cases r with
    | error e =>
      obtain ⟨_, _, _, _, _, _, _, _, _, _, _, _, q⟩ := (show L2.CX P w outer H s E0 e s' from z)
      exact q.elim
    | ok v => cases v <;> exact z⟩
theorem facts {P : Program} {w : World} {K : PySem.W.Frag} {h : Heap} {mg : Str → Option Value} {f : Addr} (X : K.In h) (G : h.Ns mainGlobals mg) (hfa : mg ("law" : Str) = some (.ref f)) (c : He.SaysD faL fnL K) (m : exB K = true) :
    ∀ base : Heap, ∃ fd : FuncData, FunD K "law" "law" (defArgs s_law) (defBody s_law) (defScope s_law) [] [] f fd ∧ FnOk P w K mg base CX0 7 f fd ["script"] (fun vs H Q _ => spR P w K (R_law K) vs H Q E0) := by
  intro base
  obtain ⟨f', fd', h1, F, h4⟩ := lawOk (P := P) (w := w) X G c m base
  have e : f' = f := by
    rw [hfa] at h1
    exact (Value.ref.inj (Option.some.inj h1)).symm
  subst e
  exact ⟨fd', F, quiet h4⟩
theorem one {K : PySem.W.Frag} {f : Addr} {fd fd' : FuncData} (F : FunD K "law" "law" (defArgs s_law) (defBody s_law) (defScope s_law) [] [] f fd) (F' : FunD K "law" "law" (defArgs s_law) (defBody s_law) (defScope s_law) [] [] f fd') : fd = fd' := by
  obtain ⟨_, _, _, _, _, _, _, _, _, _, _, l1, _⟩ := F.ex
  obtain ⟨_, _, _, _, _, _, _, _, _, _, _, l2, _⟩ := F'.ex
  rw [l1] at l2
  have e3 := Option.some.inj l2
  injection e3 with _ _ e4 _
  injection e4
theorem facts1 {P : Program} {w : World} {K : PySem.W.Frag} {h : Heap} {mg : Str → Option Value} {f : Addr} (X : K.In h) (G : h.Ns mainGlobals mg) (hfa : mg ("law" : Str) = some (.ref f)) (c : He.SaysD faL fnL K) (m : exB K = true) :
    ∃ fd : FuncData, (∀ (s : Shared) (v : Value), BindsTo s fd ⟨[v], []⟩ [("script", v)]) ∧ ∀ base : Heap, FnOk P w K mg base CX0 7 f fd ["script"] (fun vs H Q _ => spR P w K (R_law K) vs H Q E0) := by
  obtain ⟨fd, F, _⟩ := facts (P := P) (w := w) X G hfa c m h
  have b := FunD.bindsA (ps := ["script"]) F fun _ _ _ _ _ _ us hl => match us, hl with | [_], _ => rfl
  refine ⟨fd, fun s v => b s [v] rfl, fun base => ?_⟩
  obtain ⟨fd', F', h4⟩ := facts (P := P) (w := w) X G hfa c m base
  rw [one F F']
  exact h4
end CC
open PySem PySem.W PySem.Calls PyProof.Rows
theorem PySem.Challenge.cw_probewright_k01_circuits_holds : PySem.Challenge.rw_probewright_k01_circuits.Holds := by
  w_on; o_law
  refine HandSHeadRun.head_any (r := OpenLaw.row PySem.Challenge.rw_probewright_k01_circuits) (q := view (OpenLaw.row PySem.Challenge.rw_probewright_k01_circuits).prog [30]) (H := CC.hk) (ob := CC.ob) (M := 12000) (loose := CC.loose1) (d := HandSHeadRun.topDef (OpenLaw.row PySem.Challenge.rw_probewright_k01_circuits).prog 30) (kwd := []) CC.ob_eq
    (by kernel_rfl) (fun s => by kernel_rfl) CC.run (by kernel_rfl) (by kernel_rfl) (by kernel_rfl) (by rfl) (by first | assumption | decide +kernel) (by decide +kernel) ⟨rfl, rfl, rfl, rfl, rfl, by decide +kernel⟩ ?hw ?hc
  case hw => w_witness2
  case hc =>
    refine L2.walk_ofE (l := PySem.Challenge.rw_probewright_k01_circuits) (n := 63) (k := 7) (x := "script") (CX := L2.CX0) rfl (by decide) (by kernel_rfl) ⟨rfl, by decide, by decide⟩ ?F (fun _ _ _ _ z => z)
    intro w mg fa h Y G hmg0
    obtain ⟨K, KX, c⟩ := Y
    have hmg : mg ("law" : PySem.Str) = some (.ref fa) := by
      have e : (HandSHeadRun.topDef (OpenLaw.row PySem.Challenge.rw_probewright_k01_circuits).prog 30).name = ("law" : PySem.Str) := by kernel_rfl
      rw [← e]
      exact hmg0
    obtain ⟨fd, hb, hF⟩ := CC.facts1 (P := (PySem.Challenge.rw_probewright_k01_circuits).prog) (w := w) KX G hmg c.t.d c.more
    refine ⟨K, fd, _, KX, hb, fun H a ns hl HB hS => ?_, fun base _ _ => hF base⟩
    exact ⟨H, [.lst (ns.map Pw.Dt.int)], .d (.bl true), Evl.Ex.refl H, ⟨.ref a, [], rfl, ⟨a, ns.map L2.V.int, rfl, hS, CC.ints_rel ns⟩, rfl⟩, ⟨(ns, ()), rfl, (by show Mw.Got K (CC.m_law ns) _ _; rw [CC.law_true ns ]; rfl)⟩, fun v F' H' _ r => r⟩
