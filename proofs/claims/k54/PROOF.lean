import PyProof.Rows.All
import Wide.All
import OpenK.AllK
import Wide.FinOn
import PyProof.EqAt
import PyProof.EqKinds
import PyProof.TupleCall
import HandS.Base
import HandS.Call
import HandS.List
import HandS.Comp
import HandS.Ends
import HandS.Text
import HandS.Iter
import HandS.Exc
import HandS.Words
import HandS.WordsExc
import HandS.Defaults
import HandS.Wide
import HandS.IsInst
import HandS.Walk
import HandS.Evl
import HandS.Steps
import HandS.ExcInit
import HandS.ExcOwn
import KE.KExcIs
import HandS.HeadHook4
import HandS.Head2
import HandS.HeadEnd
import HandS.HeadWalk
import HandS.ExcValue
import HandS.SetKeys
import HandS.Star
import HandS.Dict
import HandS.DictComp
import HandS.Deep
import HandS.Style
import HandS.ExcField
import HandS.TryOnly
import HandS.TryMany
import HandS.Zip
import HandS.Codes
import HandS.TupAny
import PyProof.StrBlock2
import HandS.HeadHook1
import HandS.TupMul
import HandS.Conv
import HandS.SortKw
import HandS.ExcIs
import HandS.RevRange
import HandS.More
import HandS.HeadHook2
import HandS.WideBits
import KE.KDictZip
import HandS.Rev
import HandS.RevTup
import KE.GoesMore
import PySem.Challenge.RW_probewright_k54_programs_of_patterns
set_option Elab.async false
set_option linter.all false
set_option maxRecDepth 100000
set_option maxHeartbeats 2000000
set_option maxHeartbeats 0
namespace Qw
open PySem PySem.Spec PyProof.Rows L2
open Evl hiding ea_cons
def oexB (K : PySem.W.Frag) (C : Addr) : Bool := (match K.lookup C with
  | some ⟨.type "type", _, .cls cd, sl⟩ => (match cd.mro, sl.toList with
    | .ref C' :: bm, [_, _, _, _, some (.builtin n), _] => C' == C && (n == "ValueError.__new__" && (!cd.hasDel && (cd.hasDict && PySem.HandSPX.refsVE bm)))
    | _, _ => false)
  | _ => false) && (decide (PySem.W.findIn K (.ref C) "__setattr__" = some (some (.builtin "object.__setattr__"))) && (decide (PySem.W.subIn K (.ref C) (.type "BaseException") = some true) && (decide (PySem.W.typeIn K (.ref C) = some (.type "type")) && PySem.W.keepIn K (.ref C))))
end Qw
namespace CC
open PySem PySem.Spec PyProof.Rows L2
open Evl hiding ea_cons
open Qw
def top (i : Nat) : Stmt := PySem.Challenge.pw_probewright_k54_programs_of_patterns.main.body.getD i (.Pass ⟨0, 0, 0, 0⟩)
def bodyC (s : Stmt) : List Stmt := match s with | .ClassDef (body := bs) .. => bs | _ => []
def meth (i k : Nat) : Stmt := (bodyC (top i)).getD k (.Pass ⟨0, 0, 0, 0⟩)
def KIN : List Str := ["and", "or", "nand", "nor", "xor", "xnor", "not", "buf", "low", "high"]
def G_CONTRARY : List Str := ["nand", "nor", "xnor", "not", "high"]
abbrev s_is_name : Stmt := top 18
abbrev s_may_have : Stmt := top 29
abbrev s_are_names : Stmt := top 30
abbrev s_is_register : Stmt := top 31
abbrev s_is_gate : Stmt := top 32
abbrev s_check_form : Stmt := top 33
abbrev s_check_driven_once : Stmt := top 34
abbrev s_check_known : Stmt := top 35
abbrev s_check_size : Stmt := top 36
abbrev s_in_order : Stmt := top 37
abbrev s_Circuit_sources : Stmt := meth 38 2
abbrev s_Circuit_lines : Stmt := meth 38 1
abbrev s_Circuit_sinks : Stmt := meth 38 3
abbrev s_Circuit_parts : Stmt := meth 38 5
abbrev s_Circuit_init : Stmt := meth 38 0
abbrev s_Circuit_above : Stmt := meth 38 4
abbrev s_is_integer : Stmt := top 15
abbrev s_is_bit : Stmt := top 16
abbrev s_is_line : Stmt := top 20
abbrev s_is_stem : Stmt := top 21
abbrev s_is_pin : Stmt := top 22
abbrev s_is_short : Stmt := top 23
abbrev s_is_break : Stmt := top 24
abbrev s_check_version : Stmt := top 25
abbrev s_are_bits : Stmt := top 17
abbrev s_check_pattern : Stmt := top 40
abbrev s_gate_value : Stmt := top 41
abbrev s_forced : Stmt := top 42
abbrev s_u_values : Stmt := top 43
abbrev s_values : Stmt := top 44
abbrev s_response : Stmt := top 45
abbrev s_chains : Stmt := top 47
abbrev s_check_bits : Stmt := top 48
abbrev s_Tester_init : Stmt := meth 49 0
abbrev s_Tester_stored : Stmt := meth 49 1
abbrev s_Tester_shift : Stmt := meth 49 2
abbrev s_Testerresponse : Stmt := meth 49 3
abbrev s_Tester_clock : Stmt := meth 49 5
abbrev s_program_of : Stmt := top 50
abbrev s_law_draws : Stmt := top 52
abbrev s_law_draw : Stmt := top 53
abbrev s_law_same : Stmt := top 54
abbrev s_law_chains : Stmt := top 55
abbrev s_law_shifts : Stmt := top 56
abbrev s_law : Stmt := top 57
abbrev s_iBadCircuit : Stmt := meth 3 0
def dd_is_name : He.DefD := ⟨("is_name", none), "is_name", "is_name", defArgs s_is_name, defBody s_is_name, defScope s_is_name, [], []⟩
def dd_may_have : He.DefD := ⟨("_may_have", none), "_may_have", "_may_have", defArgs s_may_have, defBody s_may_have, defScope s_may_have, [], []⟩
def dd_are_names : He.DefD := ⟨("_are_names", none), "_are_names", "_are_names", defArgs s_are_names, defBody s_are_names, defScope s_are_names, [], []⟩
def dd_is_register : He.DefD := ⟨("_is_register", none), "_is_register", "_is_register", defArgs s_is_register, defBody s_is_register, defScope s_is_register, [], []⟩
def dd_is_gate : He.DefD := ⟨("is_gate", none), "is_gate", "is_gate", defArgs s_is_gate, defBody s_is_gate, defScope s_is_gate, [], []⟩
def dd_check_form : He.DefD := ⟨("_check_form", none), "_check_form", "_check_form", defArgs s_check_form, defBody s_check_form, defScope s_check_form, [], []⟩
def dd_check_driven_once : He.DefD := ⟨("_check_driven_once", none), "_check_driven_once", "_check_driven_once", defArgs s_check_driven_once, defBody s_check_driven_once, defScope s_check_driven_once, [], []⟩
def dd_check_known : He.DefD := ⟨("_check_known", none), "_check_known", "_check_known", defArgs s_check_known, defBody s_check_known, defScope s_check_known, [], []⟩
def dd_check_size : He.DefD := ⟨("_check_size", none), "_check_size", "_check_size", defArgs s_check_size, defBody s_check_size, defScope s_check_size, [], []⟩
def dd_in_order : He.DefD := ⟨("_in_order", none), "_in_order", "_in_order", defArgs s_in_order, defBody s_in_order, defScope s_in_order, [], []⟩
def dd_Circuit_lines : He.DefD := ⟨("Circuit", some "lines"), "lines", "Circuit.lines", defArgs s_Circuit_lines, defBody s_Circuit_lines, defScope s_Circuit_lines, [], []⟩
def dd_Circuit_sources : He.DefD := ⟨("Circuit", some "sources"), "sources", "Circuit.sources", defArgs s_Circuit_sources, defBody s_Circuit_sources, defScope s_Circuit_sources, [], []⟩
def dd_Circuit_sinks : He.DefD := ⟨("Circuit", some "sinks"), "sinks", "Circuit.sinks", defArgs s_Circuit_sinks, defBody s_Circuit_sinks, defScope s_Circuit_sinks, [], []⟩
def dd_Circuit_init : He.DefD := ⟨("Circuit", some "__init__"), "__init__", "Circuit.__init__", defArgs s_Circuit_init, defBody s_Circuit_init, defScope s_Circuit_init, [], []⟩
def dd_Circuit_above : He.DefD := ⟨("Circuit", some "above"), "above", "Circuit.above", defArgs s_Circuit_above, defBody s_Circuit_above, defScope s_Circuit_above, [], []⟩
def dd_Circuit_parts : He.DefD := ⟨("Circuit", some "parts"), "parts", "Circuit.parts", defArgs s_Circuit_parts, defBody s_Circuit_parts, defScope s_Circuit_parts, [], []⟩
def dd_is_integer : He.DefD := ⟨("is_integer", none), "is_integer", "is_integer", defArgs s_is_integer, defBody s_is_integer, defScope s_is_integer, [], []⟩
def dd_is_bit : He.DefD := ⟨("is_bit", none), "is_bit", "is_bit", defArgs s_is_bit, defBody s_is_bit, defScope s_is_bit, [], []⟩
def dd_is_line : He.DefD := ⟨("_is_line", none), "_is_line", "_is_line", defArgs s_is_line, defBody s_is_line, defScope s_is_line, [], []⟩
def dd_is_stem : He.DefD := ⟨("_is_stem", none), "_is_stem", "_is_stem", defArgs s_is_stem, defBody s_is_stem, defScope s_is_stem, [], []⟩
def dd_is_pin : He.DefD := ⟨("_is_pin", none), "_is_pin", "_is_pin", defArgs s_is_pin, defBody s_is_pin, defScope s_is_pin, [], []⟩
def dd_is_short : He.DefD := ⟨("_is_short", none), "_is_short", "_is_short", defArgs s_is_short, defBody s_is_short, defScope s_is_short, [], []⟩
def dd_is_break : He.DefD := ⟨("is_break", none), "is_break", "is_break", defArgs s_is_break, defBody s_is_break, defScope s_is_break, [], []⟩
def dd_check_version : He.DefD := ⟨("check_version", none), "check_version", "check_version", defArgs s_check_version, defBody s_check_version, defScope s_check_version, [], []⟩
def dd_are_bits : He.DefD := ⟨("are_bits", none), "are_bits", "are_bits", defArgs s_are_bits, defBody s_are_bits, defScope s_are_bits, [], []⟩
def dd_check_pattern : He.DefD := ⟨("check_pattern", none), "check_pattern", "check_pattern", defArgs s_check_pattern, defBody s_check_pattern, defScope s_check_pattern, [], []⟩
def dd_gate_value : He.DefD := ⟨("gate_value", none), "gate_value", "gate_value", defArgs s_gate_value, defBody s_gate_value, defScope s_gate_value, [], []⟩
def dd_forced : He.DefD := ⟨("_forced", none), "_forced", "_forced", defArgs s_forced, defBody s_forced, defScope s_forced, [], []⟩
def dd_u_values : He.DefD := ⟨("_values", none), "_values", "_values", defArgs s_u_values, defBody s_u_values, defScope s_u_values, [], []⟩
def dd_values : He.DefD := ⟨("values", none), "values", "values", defArgs s_values, defBody s_values, defScope s_values, [], []⟩
def dd_response : He.DefD := ⟨("response", none), "response", "response", defArgs s_response, defBody s_response, defScope s_response, [], []⟩
def dd_chains : He.DefD := ⟨("chains", none), "chains", "chains", defArgs s_chains, defBody s_chains, defScope s_chains, [], []⟩
def dd_check_bits : He.DefD := ⟨("_check_bits", none), "_check_bits", "_check_bits", defArgs s_check_bits, defBody s_check_bits, defScope s_check_bits, [], []⟩
def dd_Tester_init : He.DefD := ⟨("Tester", some "__init__"), "__init__", "Tester.__init__", defArgs s_Tester_init, defBody s_Tester_init, defScope s_Tester_init, [], []⟩
def dd_Tester_stored : He.DefD := ⟨("Tester", some "stored"), "stored", "Tester.stored", defArgs s_Tester_stored, defBody s_Tester_stored, defScope s_Tester_stored, [], []⟩
def dd_Tester_shift : He.DefD := ⟨("Tester", some "shift"), "shift", "Tester.shift", defArgs s_Tester_shift, defBody s_Tester_shift, defScope s_Tester_shift, [], []⟩
def dd_Testerresponse : He.DefD := ⟨("Tester", some "_response"), "_response", "Tester._response", defArgs s_Testerresponse, defBody s_Testerresponse, defScope s_Testerresponse, [], []⟩
def dd_Tester_clock : He.DefD := ⟨("Tester", some "clock"), "clock", "Tester.clock", defArgs s_Tester_clock, defBody s_Tester_clock, defScope s_Tester_clock, [], []⟩
def dd_program_of : He.DefD := ⟨("program_of", none), "program_of", "program_of", defArgs s_program_of, defBody s_program_of, defScope s_program_of, [], []⟩
def dd_law_draws : He.DefD := ⟨("_law_draws", none), "_law_draws", "_law_draws", defArgs s_law_draws, defBody s_law_draws, defScope s_law_draws, [], []⟩
def dd_law_draw : He.DefD := ⟨("_law_draw", none), "_law_draw", "_law_draw", defArgs s_law_draw, defBody s_law_draw, defScope s_law_draw, [], []⟩
def dd_law_same : He.DefD := ⟨("_law_same", none), "_law_same", "_law_same", defArgs s_law_same, defBody s_law_same, defScope s_law_same, [], []⟩
def dd_law_chains : He.DefD := ⟨("_law_chains", none), "_law_chains", "_law_chains", defArgs s_law_chains, defBody s_law_chains, defScope s_law_chains, [], []⟩
def dd_law_shifts : He.DefD := ⟨("_law_shifts", none), "_law_shifts", "_law_shifts", defArgs s_law_shifts, defBody s_law_shifts, defScope s_law_shifts, [], []⟩
def dd_law : He.DefD := ⟨("law", none), "law", "law", defArgs s_law, defBody s_law, defScope s_law, [], []⟩
def dd_iBadCircuit : He.DefD := ⟨("BadCircuit", some "__init__"), "__init__", "BadCircuit.__init__", defArgs s_iBadCircuit, defBody s_iBadCircuit, defScope s_iBadCircuit, [], []⟩
def fnL : List He.DefD := [dd_is_name, dd_may_have, dd_are_names, dd_is_register, dd_is_gate, dd_check_form, dd_check_driven_once, dd_check_known, dd_check_size, dd_in_order, dd_Circuit_lines, dd_Circuit_sources, dd_Circuit_sinks, dd_Circuit_init, dd_Circuit_above, dd_Circuit_parts, dd_is_integer, dd_is_bit, dd_is_line, dd_is_stem, dd_is_pin, dd_is_short, dd_is_break, dd_check_version, dd_are_bits, dd_check_pattern, dd_gate_value, dd_forced, dd_u_values, dd_values, dd_response, dd_chains, dd_check_bits, dd_Tester_init, dd_Tester_stored, dd_Tester_shift, dd_Testerresponse, dd_Tester_clock, dd_program_of, dd_law_draws, dd_law_draw, dd_law_same, dd_law_chains, dd_law_shifts, dd_law, dd_iBadCircuit]
def faL : List He.Fa := [.glo "is_name", .glo "_may_have", .glo "_are_names", .glo "_is_register", .glo "is_gate", .glo "_check_form", .glo "_check_driven_once", .glo "_check_known", .glo "_check_size", .glo "_in_order", .glo "Circuit", .meth "Circuit" "lines", .meth "Circuit" "sources", .meth "Circuit" "sinks", .mkr "Circuit", .meth "Circuit" "above", .meth "Circuit" "parts", .glo "is_integer", .glo "is_bit", .glo "_is_line", .glo "_is_stem", .glo "_is_pin", .glo "_is_short", .glo "is_break", .glo "check_version", .glo "are_bits", .glo "check_pattern", .glo "gate_value", .glo "_forced", .glo "_values", .glo "values", .glo "response", .glo "chains", .glo "_check_bits", .glo "Tester", .mkr "Tester", .meth "Tester" "stored", .meth "Tester" "shift", .meth "Tester" "_response", .meth "Tester" "clock", .glo "program_of", .glo "_law_draws", .glo "_law_draw", .glo "_law_same", .glo "_law_chains", .glo "_law_shifts", .glo "law", .glo "BadBreak", .glo "BadPattern", .glo "BadTester", .glo "BadCircuit", .exc "BadBreak", .exc "BadPattern", .exc "BadTester", .cls "Tester", .noat "Tester" "circuit", .noat "Tester" "version", .noat "Tester" "chains", .noat "Tester" "held", .noat "BadCircuit" "reason", .noat "BadCircuit" "name", .glo "KINDS", .cls "Circuit", .exm "BadCircuit" "BadCircuit" true, .noat "Circuit" "inputs", .noat "Circuit" "registers", .noat "Circuit" "gates", .noat "Circuit" "outputs", .noat "Circuit" "gate_of", .noat "Circuit" "order", .glo "CONTRARY", .free "all", .free "bool", .free "int", .free "isinstance", .free "len", .free "list", .free "max", .free "range", .free "reversed", .free "set", .free "str", .free "sum", .free "tuple", .free "zip", .int "MOST_PATTERNS" 1000, .int "MOST_NAME" 12, .int "MOST_PINS" 4, .int "MOST_LINES" 400, .int "MOST_SOURCES" 40, .str "_LETTERS" "abcdefghijklmnopqrstuvwxyz", .str "_CHARACTERS" "abcdefghijklmnopqrstuvwxyz0123456789_"]
def kinD : List He.Dv := KIN.map He.Dv.str
def D_CONTRARY_ : List He.Dv := G_CONTRARY.map He.Dv.str
def exB (K : PySem.W.Frag) : Bool := [oexB K (He.ga K "BadCircuit"), decide (PySem.W.findIn K (.ref (He.ga K "BadCircuit")) "__init__" = some (some (.ref (He.ma K (He.ga K "BadCircuit") "__init__")))), decide (PySem.W.typeIn K (.ref (He.ma K (He.ga K "BadCircuit") "__init__")) = some (.type "function")), xfB K (He.ga K "BadCircuit"), He.tupB K "KINDS" kinD, He.tupB K "CONTRARY" D_CONTRARY_].all id
abbrev RR : PySem.W.OpenRow := PySem.W.OpenLaw.row PySem.Challenge.rw_probewright_k54_programs_of_patterns
abbrev hk : PySem.W.Hook := He.hookX 6 faL fnL [] [] exB
def ob (s : PySem.W.SharedT) : He.AlX := He.obsX 6 faL fnL [] [] exB (HandSHeadRun.getT s)
theorem ob_eq (s : PySem.W.SharedT) : ob s = hk.obs s.abs := He.obsX_eq (HandSHeadRun.getT_eq s)
def loose1 : List PySem.Str := (["_wall", "ProbeError", "BadCircuit", "BadBreak", "BadPattern", "BadTester", "MOST_NAME", "MOST_PINS", "MOST_LINES", "MOST_SOURCES", "MOST_PATTERNS", "_LETTERS", "_CHARACTERS", "is_integer", "is_bit", "are_bits"] : List PySem.Str) ++ (["is_name", "_is_line", "_is_stem", "_is_pin", "_is_short", "is_break", "check_version", "KINDS", "CONTRARY", "_may_have", "_are_names", "_is_register", "is_gate", "_check_form", "_check_driven_once", "_check_known"] : List PySem.Str) ++ (["_check_size", "_in_order", "Circuit", "check_pattern", "gate_value", "_forced", "_values", "values", "response", "chains", "_check_bits", "Tester", "program_of", "_law_draws", "_law_draw", "_law_same"] : List PySem.Str) ++ (["_law_chains", "_law_shifts"] : List PySem.Str)
theorem run (w : World) : HandSHeadRun.RunEq RR (PySem.W.view RR.prog [57]) hk ob 12000 loose1 w := by
  intro os
  kernel_rfl
end CC
set_option maxHeartbeats 1000000
namespace Pw
open PySem PySem.Spec PyProof.Rows L2 Evl
inductive Dt where
  | non | bl (b : Bool) | int (i : Int) | str (x : Str)
  | tup (ds : List Dt) | lst (ds : List Dt)
  | dic (ks : List Key) (ds : List Dt) | dit (ks : List (List Key)) (ds : List Dt)
  | obj (C : Addr) (fs : List Str) (ds : List Dt)
  | exc (C : Addr) (fs : List Str) (ds : List Dt)
  | ty (n : String) | adr (a : Addr)
mutual
def Rp (K : PySem.W.Frag) (H : Hp) : Dt → V → Prop
  | .non, v => v = .non
  | .bl b, v => v = .bl b
  | .int i, v => v = .int i
  | .str x, v => v = .str x
  | .tup ds, v => ∃ a vs, v = .ref a ∧ SqT K H a vs ∧ RpL K H ds vs
  | .lst ds, v => ∃ a vs, v = .ref a ∧ SqL K H a vs ∧ RpL K H ds vs
  | .dic ks ds, v => ∃ a vs, v = .ref a ∧ H a = some (.dK (ks.zip vs)) ∧ ks.length = vs.length ∧ RpL K H ds vs
  | .dit ks ds, v => ∃ a vs, v = .ref a ∧ H a = some (.dT (ks.zip vs)) ∧ ks.length = vs.length ∧ RpL K H ds vs
  | .obj C fs ds, v => ∃ a dx vs, v = .ref a ∧ H a = some (.ins C dx (fs.zip vs)) ∧ fs.length = vs.length ∧ RpL K H ds vs
  | .exc C fs ds, v => ∃ a vs, v = .ref a ∧ fs.length = vs.length ∧ RpL K H ds vs ∧ ((fs = [] ∧ H a = some (exo a C none)) ∨ ∃ dx, H a = some (exo a C (some dx)) ∧ H dx = some (exd dx (fs.zip vs)))
  | .ty n, v => v = .ty n
  | .adr a, v => v = .ref a
def RpL (K : PySem.W.Frag) (H : Hp) : List Dt → List V → Prop
  | [], vs => vs = []
  | d :: ds, vs => ∃ v r, vs = v :: r ∧ Rp K H d v ∧ RpL K H ds r
end
section
variable {K : PySem.W.Frag} {F H F' H' : Hp}
mutual
theorem Rp.mono (e : Ex H H') : ∀ {d : Dt} {v : V}, Rp K H d v → Rp K H' d v
  | .non, _, h => h
  | .bl _, _, h => h
  | .int _, _, h => h
  | .str _, _, h => h
  | .tup ds, v, h => by
    obtain ⟨a, vs, e1, h1, h2⟩ := h
    exact ⟨a, vs, e1, ex_t e h1, RpL.mono e h2⟩
  | .lst ds, v, h => by
    obtain ⟨a, vs, e1, h1, h2⟩ := h
    exact ⟨a, vs, e1, ex_l e h1, RpL.mono e h2⟩
  | .dic ks ds, v, h => by
    obtain ⟨a, vs, e1, h1, h3, h2⟩ := h
    exact ⟨a, vs, e1, e _ _ h1, h3, RpL.mono e h2⟩
  | .dit ks ds, v, h => by
    obtain ⟨a, vs, e1, h1, h3, h2⟩ := h
    exact ⟨a, vs, e1, e _ _ h1, h3, RpL.mono e h2⟩
  | .obj C fs ds, v, h => by
    obtain ⟨a, dx, vs, e1, h1, h3, h2⟩ := h
    exact ⟨a, dx, vs, e1, e _ _ h1, h3, RpL.mono e h2⟩
  | .exc C fs ds, v, h => by
    obtain ⟨a, vs, e1, h3, h2, h1⟩ := h
    refine ⟨a, vs, e1, h3, RpL.mono e h2, ?_⟩
    rcases h1 with ⟨z, h1⟩ | ⟨dx, h1, h4⟩
    · exact .inl ⟨z, e _ _ h1⟩
    · exact .inr ⟨dx, e _ _ h1, e _ _ h4⟩
  | .ty _, _, h => h
  | .adr _, _, h => h
theorem RpL.mono (e : Ex H H') : ∀ {ds : List Dt} {vs : List V}, RpL K H ds vs → RpL K H' ds vs
  | [], _, h => h
  | d :: ds, vs, h => by
    obtain ⟨v, r, e1, h1, h2⟩ := h
    exact ⟨v, r, e1, Rp.mono e h1, RpL.mono e h2⟩
end
theorem RpL.nil : RpL K H [] [] := rfl
theorem RpL.cons {d : Dt} {ds : List Dt} {v : V} {vs : List V} (h : Rp K H d v) (t : RpL K H ds vs) : RpL K H (d :: ds) (v :: vs) := ⟨v, vs, rfl, h, t⟩
theorem RpL.length : ∀ {ds : List Dt} {vs : List V}, RpL K H ds vs → ds.length = vs.length
  | [], vs, h => by
    cases (show vs = [] from h)
    rfl
  | d :: ds, vs, h => by
    obtain ⟨v, r, rfl, _, t⟩ := h
    simp [RpL.length t]
theorem RpL.get : ∀ {ds : List Dt} {vs : List V} {i : Nat} {d : Dt}, RpL K H ds vs → ds[i]? = some d → ∃ v, vs[i]? = some v ∧ Rp K H d v
  | [], _, _, _, _, e => by simp at e
  | d :: ds, vs, 0, d', h, e => by
    obtain ⟨v, r, rfl, q, t⟩ := h
    simp at e
    subst e
    exact ⟨v, by simp, q⟩
  | d :: ds, vs, i + 1, d', h, e => by
    obtain ⟨v, r, rfl, q, t⟩ := h
    obtain ⟨w, h1, h2⟩ := RpL.get (i := i) t (by simpa using e)
    exact ⟨w, by simpa using h1, h2⟩
theorem RpL.getV : ∀ {ds : List Dt} {vs : List V} {i : Nat} {v : V}, RpL K H ds vs → vs[i]? = some v → ∃ d, ds[i]? = some d ∧ Rp K H d v
  | [], vs, _, _, h, e => by
    cases (show vs = [] from h)
    simp at e
  | d :: ds, vs, 0, w, h, e => by
    obtain ⟨v, r, rfl, q, t⟩ := h
    simp at e
    subst e
    exact ⟨d, by simp, q⟩
  | d :: ds, vs, i + 1, w, h, e => by
    obtain ⟨v, r, rfl, q, t⟩ := h
    obtain ⟨w, h1, h2⟩ := RpL.getV (i := i) t (by simpa using e)
    exact ⟨w, by simpa using h1, h2⟩
theorem RpL.append : ∀ {ds es : List Dt} {vs us : List V}, RpL K H ds vs → RpL K H es us → RpL K H (ds ++ es) (vs ++ us)
  | [], _, vs, _, h, t => by
    cases (show vs = [] from h)
    exact t
  | d :: ds, es, vs, us, h, t => by
    obtain ⟨v, r, rfl, q, s⟩ := h
    exact ⟨v, r ++ us, rfl, q, RpL.append s t⟩
theorem RpL.set : ∀ {ds : List Dt} {vs : List V} {d : Dt} {v : V} (i : Nat), RpL K H ds vs → Rp K H d v → RpL K H (ds.set i d) (vs.set i v)
  | [], vs, _, _, _, h, q => by
    cases (show vs = [] from h)
    exact rfl
  | d :: ds, vs, d', v', 0, h, q => by
    obtain ⟨v, r, rfl, _, s⟩ := h
    exact ⟨v', r, rfl, q, s⟩
  | d :: ds, vs, d', v', i + 1, h, q => by
    obtain ⟨v, r, rfl, q', s⟩ := h
    exact ⟨v, r.set i v', rfl, q', RpL.set i s q⟩
theorem RpL.take : ∀ {ds : List Dt} {vs : List V} (i : Nat), RpL K H ds vs → RpL K H (ds.take i) (vs.take i)
  | [], vs, i, h => by
    cases (show vs = [] from h)
    simp [RpL]
  | d :: ds, vs, 0, h => by simp [RpL]
  | d :: ds, vs, i + 1, h => by
    obtain ⟨v, r, rfl, q', s⟩ := h
    exact ⟨v, r.take i, rfl, q', RpL.take i s⟩
theorem RpL.drop : ∀ {ds : List Dt} {vs : List V} (i : Nat), RpL K H ds vs → RpL K H (ds.drop i) (vs.drop i)
  | [], vs, i, h => by
    cases (show vs = [] from h)
    simp [RpL]
  | d :: ds, vs, 0, h => by simpa using h
  | d :: ds, vs, i + 1, h => by
    obtain ⟨v, r, rfl, q', s⟩ := h
    simpa using RpL.drop i s
theorem RpL.of : ∀ {ds : List Dt} {vs : List V}, ds.length = vs.length → (∀ (i : Nat) (d : Dt) (v : V), ds[i]? = some d → vs[i]? = some v → Rp K H d v) → RpL K H ds vs
  | [], vs, e, _ => List.length_eq_zero_iff.mp e.symm
  | d :: ds, [], e, _ => by simp at e
  | d :: ds, v :: vs, e, h => ⟨v, vs, rfl, h 0 d v rfl rfl, RpL.of (by simpa using e) fun i d' v' h1 h2 => h (i + 1) d' v' (by simpa using h1) (by simpa using h2)⟩
/-- ints alone -/
theorem RpL.ints : ∀ {ns : List Int} {vs : List V}, RpL K H (ns.map Dt.int) vs → vs = ns.map V.int
  | [], _, h => h
  | n :: ns, vs, h => by
    obtain ⟨v, r, rfl, q, s⟩ := h
    rw [show v = V.int n from q, RpL.ints s]
    rfl
theorem RpL.bls : ∀ {ns : List Bool} {vs : List V}, RpL K H (ns.map Dt.bl) vs → vs = ns.map V.bl
  | [], _, h => h
  | n :: ns, vs, h => by
    obtain ⟨v, r, rfl, q, s⟩ := h
    rw [show v = V.bl n from q, RpL.bls s]
    rfl
end
structure Wk (F H F' H' : Hp) : Prop where
  f : Ex F F'
  h : Ex H H'
  s : Ex F' H'
  n : ∀ a o, H a = some o → F a = none → F' a = none
section
variable {K : PySem.W.Frag} {F H F1 H1 F2 H2 : Hp}
theorem Wk.refl (e : Ex F H) : Wk F H F H := ⟨Ex.refl F, Ex.refl H, e, fun _ _ _ h => h⟩
theorem Wk.trans (a : Wk F H F1 H1) (b : Wk F1 H1 F2 H2) : Wk F H F2 H2 :=
  ⟨a.f.trans b.f, a.h.trans b.h, b.s, fun x o h1 h2 => b.n x o (a.h x o h1) (a.n x o h1 h2)⟩
theorem none_sub (e : Ex F H) {p : Addr} (h : H p = none) : F p = none := fresh_back e h
/-- a new object that is data -/
theorem Wk.new (e : Ex F H) {p : Addr} (o : HO) (h : H p = none) : Wk F H (upd F p o) (upd H p o) :=
  ⟨Ex.new (none_sub e h), Ex.new h, fun a u q => by
    by_cases z : a = p
    · subst z
      rw [upd_same] at q ⊢
      exact q
    · rw [upd_ne z] at q ⊢
      exact e a u q, fun a u q n => by
    have z : a ≠ p := ne_of_none q h
    rw [upd_ne z]
    exact n⟩
/-- a new object of one's own -/
theorem Wk.own (e : Ex F H) {p : Addr} (o : HO) (h : H p = none) : Wk F H F (upd H p o) :=
  ⟨Ex.refl F, Ex.new h, e.trans (Ex.new h), fun _ _ _ n => n⟩
/-- .. becomes data -/
theorem Wk.give {p : Addr} {o : HO} (e : Ex F H) (w : Wk F H F1 H1) (h0 : H p = none) (h : H1 p = some o) : Wk F H (upd F1 p o) H1 :=
  ⟨fun a u q => by
    have z : a ≠ p := ne_of_none q (none_sub e h0)
    rw [upd_ne z]
    exact w.f a u q, w.h, fun a u q => by
    by_cases z : a = p
    · subst z
      rw [upd_same] at q
      rw [h, ← q]
    · rw [upd_ne z] at q
      exact w.s a u q, fun a u q n => by
    have z : a ≠ p := ne_of_none q h0
    rw [upd_ne z]
    exact w.n a u q n⟩
end
inductive Sl where
  | x | u | d (d : Dt) | ol (ds : List Dt)
def SlOk (K : PySem.W.Frag) (F H0 H : Hp) (v : Option V) : Sl → Prop
  | .x => True
  | .u => v = none
  | .d d => ∃ w, v = some w ∧ Rp K F d w
  | .ol ds => ∃ p vs, v = some (.ref p) ∧ F p = none ∧ H0 p = none ∧ H p = some (.lst vs) ∧ RpL K F ds vs
abbrev En := List Sl
/-- the state: F0, H0 at the def's entry, F, H now -/
structure Sm (K : PySem.W.Frag) (F0 H0 F H : Hp) (σ : L2.St) (env : En) : Prop where
  e0 : Ex F0 H0
  g : Wk F0 H0 F H
  len : σ.length = env.length
  sl : ∀ (i : Nat) (s : Sl), env[i]? = some s → ∃ v, σ[i]? = some v ∧ SlOk K F H0 H v s
  df : ∀ (i j : Nat) (ds es : List Dt) (p : Addr), i ≠ j → env[i]? = some (.ol ds) → env[j]? = some (.ol es) → σ[i]? = some (some (.ref p)) → σ[j]? ≠ some (some (.ref p))
section
variable {K : PySem.W.Frag} {F0 H0 F H F' H' : Hp} {σ : L2.St} {env env' : En}
theorem SlOk.wk {v : Option V} {s : Sl} (w : Wk F H F' H') (h : SlOk K F H0 H v s) : SlOk K F' H0 H' v s := by
  cases s with
  | x => trivial
  | u => exact h
  | d d =>
    obtain ⟨u, e, r⟩ := h
    exact ⟨u, e, r.mono w.f⟩
  | ol ds =>
    obtain ⟨p, vs, e, h1, h2, h3, h4⟩ := h
    exact ⟨p, vs, e, w.n p _ h3 h1, h2, w.h p _ h3, h4.mono w.f⟩
theorem Sm.wk (S : Sm K F0 H0 F H σ env) (w : Wk F H F' H') : Sm K F0 H0 F' H' σ env :=
  ⟨S.e0, S.g.trans w, S.len, fun i s e => by
    obtain ⟨v, h1, h2⟩ := S.sl i s e
    exact ⟨v, h1, h2.wk w⟩, S.df⟩
theorem Sm.sub (S : Sm K F0 H0 F H σ env) : Ex F H := S.g.s
/-- an object that is nobody's slot is made or changed -/
theorem Sm.upd (S : Sm K F0 H0 F H σ env) {p : Addr} (o : HO) (hF : F p = none) (h0 : H0 p = none) (hp : ∀ (i : Nat) (ds : List Dt), env[i]? = some (.ol ds) → σ[i]? ≠ some (some (.ref p))) : Sm K F0 H0 F (L2.upd H p o) σ env :=
  ⟨S.e0, ⟨S.g.f, fun a u q => by
    rw [upd_ne (ne_of_none q h0)]
    exact S.g.h a u q, fun a u q => by
    rw [upd_ne (ne_of_none q hF)]
    exact S.g.s a u q, S.g.n⟩, S.len, fun i s e => by
    obtain ⟨v, h1, h2⟩ := S.sl i s e
    refine ⟨v, h1, ?_⟩
    cases s with
    | x => trivial
    | u => exact h2
    | d d => exact h2
    | ol ds =>
      obtain ⟨q, vs, ev, g1, g2, g3, g4⟩ := h2
      have ne : q ≠ p := fun z => hp i ds e (by rw [h1, ev, z])
      exact ⟨q, vs, ev, g1, g2, by rw [upd_ne ne]; exact g3, g4⟩, S.df⟩
theorem get_set {α : Type} {l : List α} {i j : Nat} {a b : α} (h : (l.set i a)[j]? = some b) : (i = j ∧ b = a ∧ i < l.length) ∨ (i ≠ j ∧ l[j]? = some b) := by
  rw [List.getElem?_set] at h
  by_cases e : i = j
  · rw [if_pos e] at h
    by_cases l : i < l.length
    · rw [if_pos l] at h
      exact .inl ⟨e, (Option.some.inj h).symm, l⟩
    · rw [if_neg l] at h
      cases h
  · rw [if_neg e] at h
    exact .inr ⟨e, h⟩
theorem set_same {α : Type} {l : List α} {i : Nat} {a : α} (h : i < l.length) : (l.set i a)[i]? = some a := by simp [h]
theorem set_ne {α : Type} {l : List α} {i j : Nat} {a : α} (h : i ≠ j) : (l.set i a)[j]? = l[j]? := by simp [h]
/-- slot i gets data -/
theorem Sm.setD (S : Sm K F0 H0 F H σ env) {i : Nat} {d : Dt} {v : V} (r : Rp K F d v) : Sm K F0 H0 F H (σ.set i (some v)) (env.set i (.d d)) :=
  ⟨S.e0, S.g, by simp [S.len], fun j s e => by
    rcases get_set e with ⟨rfl, rfl, l⟩ | ⟨ne, e⟩
    · exact ⟨some v, set_same (by rw [S.len]; exact l), v, rfl, r⟩
    · rw [set_ne ne]
      exact S.sl j s e, fun a b ds es p ne e1 e2 h => by
    rcases get_set e1 with ⟨_, z, _⟩ | ⟨n1, e1⟩
    · cases z
    · rcases get_set e2 with ⟨_, z, _⟩ | ⟨n2, e2⟩
      · cases z
      · rw [set_ne n1] at h
        rw [set_ne n2]
        exact S.df a b ds es p ne e1 e2 h⟩
/-- slot i gets a new list of its own -/
theorem Sm.setL (S : Sm K F0 H0 F H σ env) {i : Nat} {ds : List Dt} {p : Addr} {vs : List V} (hF : F p = none) (h0 : H0 p = none) (hp : H p = some (.lst vs)) (r : RpL K F ds vs) (hn : ∀ (j : Nat) (es : List Dt), env[j]? = some (.ol es) → σ[j]? ≠ some (some (.ref p))) :
    Sm K F0 H0 F H (σ.set i (some (.ref p))) (env.set i (.ol ds)) :=
  ⟨S.e0, S.g, by simp [S.len], fun j s e => by
    rcases get_set e with ⟨rfl, rfl, l⟩ | ⟨ne, e⟩
    · exact ⟨some (.ref p), set_same (by rw [S.len]; exact l), p, vs, rfl, hF, h0, hp, r⟩
    · rw [set_ne ne]
      exact S.sl j s e, fun a b ds es q ne e1 e2 h => by
    rcases get_set e1 with ⟨ra, z1, _⟩ | ⟨n1, e1⟩
    · rcases get_set e2 with ⟨rb, z2, _⟩ | ⟨n2, e2⟩
      · exact absurd (ra.symm.trans rb) ne
      · subst ra
        rw [set_ne n2]
        have l : i < σ.length := by
          rw [S.len]
          exact (by assumption)
        rw [set_same l] at h
        cases h
        exact hn b es e2
    · rcases get_set e2 with ⟨rb, z2, l⟩ | ⟨n2, e2⟩
      · subst rb
        rw [set_ne n1] at h
        intro q2
        rw [set_same (by rw [S.len]; exact l)] at q2
        cases q2
        exact hn a ds e1 h
      · rw [set_ne n1] at h
        rw [set_ne n2]
        exact S.df a b ds es q ne e1 e2 h⟩
/-- the own list in slot i becomes data -/
theorem Sm.freeze (S : Sm K F0 H0 F H σ env) {i : Nat} {ds : List Dt} (h : env[i]? = some (.ol ds)) :
    ∃ p vs, σ[i]? = some (some (.ref p)) ∧ F p = none ∧ H p = some (.lst vs) ∧ RpL K F ds vs ∧ Sm K F0 H0 (L2.upd F p (.lst vs)) H σ (env.set i (.d (.lst ds))) := by
  obtain ⟨v, h1, p, vs, rfl, g1, g2, g3, g4⟩ := S.sl i _ h
  have ex : Ex F (L2.upd F p (.lst vs)) := Ex.new g1
  refine ⟨p, vs, h1, g1, g3, g4, S.e0, S.g.give S.e0 g2 g3, by simp [S.len], fun j s e => ?_, fun a b ds es q ne e1 e2 h => ?_⟩
  · rcases get_set e with ⟨rfl, rfl, l⟩ | ⟨ne, e⟩
    · exact ⟨_, h1, .ref p, rfl, p, vs, rfl, SqL.of upd_same, g4.mono ex⟩
    · obtain ⟨w, k1, k2⟩ := S.sl j s e
      refine ⟨w, k1, ?_⟩
      cases s with
      | x => trivial
      | u => exact k2
      | d d =>
        obtain ⟨u, e, r⟩ := k2
        exact ⟨u, e, r.mono ex⟩
      | ol es =>
        obtain ⟨q, us, eq, f1, f2, f3, f4⟩ := k2
        have nq : q ≠ p := fun z => S.df i j ds es p ne h e h1 (by rw [k1, eq, z])
        exact ⟨q, us, eq, by rw [upd_ne nq]; exact f1, f2, f3, f4.mono ex⟩
  · rcases get_set e1 with ⟨_, z, _⟩ | ⟨n1, e1⟩
    · cases z
    · rcases get_set e2 with ⟨_, z, _⟩ | ⟨n2, e2⟩
      · cases z
      · exact S.df a b ds es q ne e1 e2 h
/-- forgetting -/
def Le (a b : En) : Prop := a.length = b.length ∧ ∀ (i : Nat) (s : Sl), b[i]? = some s → s = .x ∨ a[i]? = some s
theorem Le.refl (a : En) : Le a a := ⟨rfl, fun _ _ h => .inr h⟩
theorem Le.nil : Le [] [] := Le.refl _
theorem Le.x {a b : En} {s : Sl} (h : Le a b) : Le (s :: a) (.x :: b) := ⟨by simp [h.1], fun i t e => by
  cases i with
  | zero => exact .inl (by simpa using e.symm)
  | succ i => exact h.2 i t (by simpa using e)⟩
theorem Le.s {a b : En} {s : Sl} (h : Le a b) : Le (s :: a) (s :: b) := ⟨by simp [h.1], fun i t e => by
  cases i with
  | zero => exact .inr (by simpa using e)
  | succ i => exact h.2 i t (by simpa using e)⟩
theorem Sm.le (S : Sm K F0 H0 F H σ env) (l : Le env env') : Sm K F0 H0 F H σ env' :=
  ⟨S.e0, S.g, S.len.trans l.1, fun i s e => by
    rcases l.2 i s e with rfl | z
    · have hi : i < σ.length := by
        rw [S.len, l.1]
        exact (List.getElem?_eq_some_iff.mp e).1
      exact ⟨σ[i], by simp [hi], trivial⟩
    · exact S.sl i s z, fun a b ds es p ne e1 e2 h => by
    rcases l.2 a _ e1 with z | e1
    · cases z
    · rcases l.2 b _ e2 with z | e2
      · cases z
      · exact S.df a b ds es p ne e1 e2 h⟩
end
end Pw
set_option maxHeartbeats 2000000
namespace Pw
open PySem PySem.Spec PyProof.Rows L2 Evl
variable (K : PySem.W.Frag)
/-- what is done with a value d -/
abbrev Kq (F H : Hp) (d : Dt) (Q : VK) : Prop := ∀ v F' H', Wk F H F' H' → Rp K F' d v → Q v H'
abbrev KqL (F H : Hp) (ds : List Dt) (Q : List V → Hp → Prop) : Prop := ∀ vs F' H', Wk F H F' H' → RpL K F' ds vs → Q vs H'
def Ee (te : TE) (env : En) (d : Dt) : Prop := ∀ F0 H0 F H σ, Sm K F0 H0 F H σ env → ∀ Q : VK, Kq K F H d Q → te σ H Q
def Te (tt : TT) (env : En) (b : Bool) : Prop := ∀ F0 H0 F H σ, Sm K F0 H0 F H σ env → ∀ Q : Bool → Hp → Prop, (∀ F' H', Wk F H F' H' → Q b H') → tt σ H Q
def EeA (ta : TA) (env : En) (ds : List Dt) : Prop := ∀ F0 H0 F H σ, Sm K F0 H0 F H σ env → ∀ Q : List V → Hp → Prop, KqL K F H ds Q → ta σ H Q
/-- a new list of one's own -/
def EnL (te : TE) (env : En) (ds : List Dt) : Prop := ∀ F0 H0 F H σ, Sm K F0 H0 F H σ env → ∀ Q : VK, (∀ p vs F' H', Wk F H F' H' → H p = none → F' p = none → H' p = some (.lst vs) → RpL K F' ds vs → Q (.ref p) H') → te σ H Q
/-- operations on values -/
def R2d (r : R2) (d e z : Dt) : Prop := ∀ F H x y, Ex F H → Rp K F d x → Rp K F e y → ∀ Q : VK, Kq K F H z Q → r x y H Q
def R1d (r : V → Hp → VK → Prop) (d z : Dt) : Prop := ∀ F H x, Ex F H → Rp K F d x → ∀ Q : VK, Kq K F H z Q → r x H Q
def RLd (r : List V → Hp → VK → Prop) (ds : List Dt) (z : Dt) : Prop := ∀ F H vs, Ex F H → RpL K F ds vs → ∀ Q : VK, Kq K F H z Q → r vs H Q
def RLn (r : List V → Hp → VK → Prop) (ds es : List Dt) : Prop := ∀ F H vs, Ex F H → RpL K F ds vs → ∀ Q : VK, (∀ p us F' H', Wk F H F' H' → H p = none → F' p = none → H' p = some (.lst us) → RpL K F' es us → Q (.ref p) H') → r vs H Q
variable {K}
section
variable {env : En} {ta tb te tc : TE} {t u : TT} {d e z : Dt} {r r' : R2}
theorem te_is {b c : Bool} (h : Te K t env b) (e' : b = c) : Te K t env c := by
  rw [← e']
  exact h
theorem ee_op (ha : Ee K ta env d) (hb : Ee K tb env e) (hr : R2d K r d e z) : Ee K (tOp r ta tb) env z := fun F0 H0 F H σ S Q q =>
  ha F0 H0 F H σ S _ fun x F1 H1 w1 r1 => hb F0 H0 F1 H1 σ (S.wk w1) _ fun y F2 H2 w2 r2 => hr F2 H2 x y w2.s (r1.mono w2.f) r2 Q fun v F3 H3 w3 r3 => q v F3 H3 ((w1.trans w2).trans w3) r3
theorem ea_cons {tr : TA} {ds : List Dt} (h : Ee K te env d) (hr : EeA K tr env ds) : EeA K (tCons te tr) env (d :: ds) := fun F0 H0 F H σ S Q q =>
  h F0 H0 F H σ S _ fun x F1 H1 w1 r1 => hr F0 H0 F1 H1 σ (S.wk w1) _ fun vs F2 H2 w2 r2 => q (x :: vs) F2 H2 (w1.trans w2) ⟨x, vs, rfl, r1.mono w2.f, r2⟩
theorem ee_cb {r : List V → Hp → VK → Prop} {ta : TA} {ds : List Dt} (h : EeA K ta env ds) (hr : RLd K r ds z) : Ee K (tCB r ta) env z := fun F0 H0 F H σ S Q q =>
  h F0 H0 F H σ S _ fun vs F1 H1 w1 r1 => hr F1 H1 vs w1.s r1 Q fun v F3 H3 w3 r3 => q v F3 H3 (w1.trans w3) r3
theorem te_test {b : Bool} (h : Ee K te env (.bl b)) : Te K (tTest te) env b := fun F0 H0 F H σ S Q q => h F0 H0 F H σ S _ fun v F1 H1 w1 r1 => ⟨b, r1, q F1 H1 w1⟩
theorem te_or {a b : Bool} (h1 : Te K t env a) (h2 : a = false → Te K u env b) : Te K (tOr t u) env (a || b) := fun F0 H0 F H σ S Q q => h1 F0 H0 F H σ S _ fun F1 H1 w1 => by
  cases a with
  | false =>
    show u σ H1 Q
    exact h2 rfl F0 H0 F1 H1 σ (S.wk w1) Q fun F2 H2 w2 => q F2 H2 (w1.trans w2)
  | true =>
    show Q true H1
    exact q F1 H1 w1
def truD : Dt → Option Bool
  | .non => some false
  | .bl b => some b
  | .int i => some (i != 0)
  | .tup ds => some (!ds.isEmpty)
  | .lst ds => some (!ds.isEmpty)
  | _ => none
theorem isEmpty_rp {F : Hp} {ds : List Dt} {vs : List V} (h : RpL K F ds vs) : (!ds.isEmpty) = !vs.isEmpty := by
  have := h.length
  cases ds <;> cases vs <;> simp_all
def flatD : Dt → Bool
  | .non | .bl _ | .int _ | .str _ | .ty _ | .adr _ => true
  | _ => false
theorem Rp.flat {F F' : Hp} {v : V} (h : Rp K F d v) (f : flatD d = true) : Rp K F' d v := by
  cases d <;> first | exact h | cases f
theorem r2_I0 {g : Int → Int → Int} {i j : Int} : R2d K (rI0 fun i j => .int (g i j)) (.int i) (.int j) (.int (g i j)) := fun F H x y s r1 r2 Q q => ⟨i, j, r1, r2, q _ F H (Wk.refl s) rfl⟩
theorem r2_B0 {g : Int → Int → Bool} {i j : Int} : R2d K (rI0 fun i j => .bl (g i j)) (.int i) (.int j) (.bl (g i j)) := fun F H x y s r1 r2 Q q => ⟨i, j, r1, r2, q _ F H (Wk.refl s) rfl⟩
theorem r2_I {C : Int → Int → Prop} {g : Int → Int → Int} {i j : Int} (c : C i j) : R2d K (rI C fun i j => .int (g i j)) (.int i) (.int j) (.int (g i j)) := fun F H x y s r1 r2 Q q => ⟨i, j, r1, r2, c, q _ F H (Wk.refl s) rfl⟩
theorem r1_U {g : Int → Int} {i : Int} : R1d K (rU fun i => .int (g i)) (.int i) (.int (g i)) := fun F H x s r1 Q q => ⟨i, r1, q _ F H (Wk.refl s) rfl⟩
/-- a value that holds no object -/
def fl : Dt → V
  | .non => .non
  | .bl b => .bl b
  | .int i => .int i
  | .str x => .str x
  | .ty n => .ty n
  | .adr a => .ref a
  | _ => .non
theorem Rp.fl {F : Hp} {v : V} (h : Rp K F d v) (f : flatD d = true) : v = Pw.fl d := by
  cases d <;> first | exact h | cases f
theorem r2_eq (fd : flatD d = true := by rfl) (fe : flatD e = true := by rfl) (hs : scal (fl d) (fl e) = true := by rfl) : R2d K rEq d e (.bl (decide (fl d = fl e))) := fun F H x y s r1 r2 Q q => by
  rw [r1.fl fd, r2.fl fe]
  exact ⟨hs, q _ F H (Wk.refl s) rfl⟩
theorem r2_ne (fd : flatD d = true := by rfl) (fe : flatD e = true := by rfl) (hs : scal (fl d) (fl e) = true := by rfl) : R2d K rNe d e (.bl (!decide (fl d = fl e))) := fun F H x y s r1 r2 Q q => by
  rw [r1.fl fd, r2.fl fe]
  exact ⟨hs, q _ F H (Wk.refl s) rfl⟩
theorem r2_eqI {i j : Int} : R2d K rEq (.int i) (.int j) (.bl (decide (i = j))) := fun F H x y s r1 r2 Q q => by
  cases r1; cases r2
  exact ⟨rfl, q _ F H (Wk.refl s) (by show V.bl _ = V.bl _; simp)⟩
theorem r2_neI {i j : Int} : R2d K rNe (.int i) (.int j) (.bl (!decide (i = j))) := fun F H x y s r1 r2 Q q => by
  cases r1; cases r2
  exact ⟨rfl, q _ F H (Wk.refl s) (by show V.bl _ = V.bl _; simp)⟩
theorem r2_eqS {i j : Str} : R2d K rEq (.str i) (.str j) (.bl (decide (i = j))) := fun F H x y s r1 r2 Q q => by
  cases r1; cases r2
  exact ⟨rfl, q _ F H (Wk.refl s) (by show V.bl _ = V.bl _; simp)⟩
theorem r2_neS {i j : Str} : R2d K rNe (.str i) (.str j) (.bl (!decide (i = j))) := fun F H x y s r1 r2 Q q => by
  cases r1; cases r2
  exact ⟨rfl, q _ F H (Wk.refl s) (by show V.bl _ = V.bl _; simp)⟩
/-- items -/
theorem r2_ixL {ds : List Dt} {i : Int} {j : Nat} (hj : ixN ds.length i = some j) (h : ds[j]? = some z) : R2d K (rIxL K) (.lst ds) (.int i) z := fun F H x y s r1 r2 Q q => by
  obtain ⟨a, vs, rfl, h1, h2⟩ := r1
  obtain ⟨v, g1, g2⟩ := h2.get h
  exact ⟨a, vs, i, v, rfl, r2, ex_l s h1, by unfold atI; rw [← h2.length, hj]; exact g1, q v F H (Wk.refl s) g2⟩
theorem r2_ixT {ds : List Dt} {i : Int} {j : Nat} (hj : ixN ds.length i = some j) (h : ds[j]? = some z) : R2d K (rIxT K) (.tup ds) (.int i) z := fun F H x y s r1 r2 Q q => by
  obtain ⟨a, vs, rfl, h1, h2⟩ := r1
  obtain ⟨v, g1, g2⟩ := h2.get h
  exact ⟨a, vs, i, v, rfl, r2, ex_t s h1, by unfold atI; rw [← h2.length, hj]; exact g1, q v F H (Wk.refl s) g2⟩
theorem ixN_at {n : Nat} {i : Int} (h0 : 0 ≤ i) (h1 : i < n) : ixN n i = some i.toNat := by
  have h := ixN_nat (n := n) (j := i.toNat) (by omega)
  rw [show ((i.toNat : Nat) : Int) = i by omega] at h
  exact h
theorem r2_ixS {w : Str} {i : Int} {c : Nat} (hl : w.length ≤ 100000) (h : atI w.cps.toList i = some c) : R2d K rIxS (.str w) (.int i) (.str ⟨#[c]⟩) := fun F H x y s r1 r2 Q q => by
  cases r1; cases r2
  exact ⟨w, i, c, rfl, rfl, sz_of hl, h, q _ F H (Wk.refl s) rfl⟩
theorem r2_addS {v w : Str} (hl : v.length + w.length ≤ 100000) : R2d K (fun x y H Q => ∃ i j, x = .str i ∧ y = .str j ∧ i.length + j.length ≤ sizeLine ∧ Q (.str (i ++ j)) H) (.str v) (.str w) (.str (v ++ w)) := fun F H x y s r1 r2 Q q => by
  cases r1; cases r2
  exact ⟨v, w, rfl, rfl, sz_of hl, q _ F H (Wk.refl s) rfl⟩
/-- a written sign in a text -/
theorem r2_inS {c : Nat} {w : Str} : R2d K rInS (.str ⟨#[c]⟩) (.str w) (.bl (decide (c ∈ w.cps.toList))) := fun F H x y s r1 r2 Q q => by
  cases r1; cases r2
  exact ⟨c, w, rfl, rfl, q _ F H (Wk.refl s) rfl⟩
theorem r2_niS {c : Nat} {w : Str} : R2d K rNotInS (.str ⟨#[c]⟩) (.str w) (.bl (!decide (c ∈ w.cps.toList))) := fun F H x y s r1 r2 Q q => by
  cases r1; cases r2
  exact ⟨c, w, rfl, rfl, q _ F H (Wk.refl s) rfl⟩
/-- in over a list or tuple of plain values -/
theorem RpL.fl {F : Hp} : ∀ {ds : List Dt} {vs : List V}, RpL K F ds vs → ds.all flatD = true → vs = ds.map Pw.fl
  | [], _, h, _ => h
  | d :: ds, vs, h, f => by
    obtain ⟨v, r, rfl, q, s⟩ := h
    rw [List.all_cons, Bool.and_eq_true] at f
    rw [q.fl f.1, RpL.fl s f.2]
    rfl
theorem r2_in {neg : Bool} {ds : List Dt} (fd : flatD d = true) (fs : ds.all flatD = true) (gd : flatV (fl d) = true) (gs : (ds.map fl).all flatV = true) :
    R2d K (rIn K neg) d (.lst ds) (.bl (if neg then !inV (fl d) (ds.map fl) else inV (fl d) (ds.map fl))) := fun F H x y s r1 r2 Q q => by
  obtain ⟨a, vs, rfl, h1, h2⟩ := r2
  rw [r1.fl fd]
  rw [h2.fl fs] at h1
  exact ⟨a, _, rfl, .inl (ex_l s h1), gd, gs, q _ F H (Wk.refl s) rfl⟩
theorem r2_inT {neg : Bool} {ds : List Dt} (fd : flatD d = true) (fs : ds.all flatD = true) (gd : flatV (fl d) = true) (gs : (ds.map fl).all flatV = true) :
    R2d K (rIn K neg) d (.tup ds) (.bl (if neg then !inV (fl d) (ds.map fl) else inV (fl d) (ds.map fl))) := fun F H x y s r1 r2 Q q => by
  obtain ⟨a, vs, rfl, h1, h2⟩ := r2
  rw [r1.fl fd]
  rw [h2.fl fs] at h1
  exact ⟨a, _, rfl, .inr (ex_t s h1), gd, gs, q _ F H (Wk.refl s) rfl⟩
mutual
def py : Dt → Option PyData
  | .non => some .none
  | .bl b => some (.bool b)
  | .int i => some (.int i)
  | .str x => some (.str x)
  | .tup ds => (pyL ds).map .tuple
  | .lst ds => (pyL ds).map .list
  | _ => none
def pyL : List Dt → Option (List PyData)
  | [] => some []
  | d :: ds => match py d, pyL ds with
    | some p, some ps => some (p :: ps)
    | _, _ => none
end
mutual
theorem Rp.dp {F : Hp} : ∀ {d : Dt} {v : V} {p : PyData}, Rp K F d v → py d = some p → Dp K F v p
  | .non, v, p, h, e => by cases e; cases h; exact .non
  | .bl b, v, p, h, e => by cases e; cases h; exact .bl b
  | .int b, v, p, h, e => by cases e; cases h; exact .int b
  | .str b, v, p, h, e => by cases e; cases h; exact .str b
  | .tup ds, v, p, h, e => by
    obtain ⟨a, vs, rfl, h1, h2⟩ := h
    cases q : pyL ds with
    | none => simp [py, q] at e
    | some ps =>
      simp [py, q] at e
      subst e
      exact .tup h1 (RpL.dp h2 q)
  | .lst ds, v, p, h, e => by
    obtain ⟨a, vs, rfl, h1, h2⟩ := h
    cases q : pyL ds with
    | none => simp [py, q] at e
    | some ps =>
      simp [py, q] at e
      subst e
      exact .lst h1 (RpL.dp h2 q)
  | .dic _ _, _, _, _, e => by simp [py] at e
  | .dit _ _, _, _, _, e => by simp [py] at e
  | .obj _ _ _, _, _, _, e => by simp [py] at e
  | .exc _ _ _, _, _, _, e => by simp [py] at e
  | .ty _, _, _, _, e => by simp [py] at e
  | .adr _, _, _, _, e => by simp [py] at e
theorem RpL.dp {F : Hp} : ∀ {ds : List Dt} {vs : List V} {ps : List PyData}, RpL K F ds vs → pyL ds = some ps → DpAll K F vs ps
  | [], vs, ps, h, e => by
    cases e
    cases (show vs = [] from h)
    exact .nil
  | d :: ds, vs, ps, h, e => by
    obtain ⟨v, r, rfl, q, s⟩ := h
    cases e1 : py d with
    | none => simp [pyL, e1] at e
    | some p =>
      cases e2 : pyL ds with
      | none => simp [pyL, e1, e2] at e
      | some ps' =>
        simp [pyL, e1, e2] at e
        subst e
        exact .cons (Rp.dp q e1) (RpL.dp s e2)
end
mutual
theorem dp_mono {H H' : Hp} (e : Ex H H') : ∀ {p : PyData} {v : V}, Dp K H v p → Dp K H' v p
  | .none, _, h => by cases h; exact .non
  | .bool b, _, h => by cases h; exact .bl b
  | .int b, _, h => by cases h; exact .int b
  | .str b, _, h => by cases h; exact .str b
  | .list ds, _, h => by
    cases h with
    | lst h1 h2 => exact .lst (ex_l e h1) (dpAll_mono e h2)
  | .tuple ds, _, h => by
    cases h with
    | tup h1 h2 => exact .tup (ex_t e h1) (dpAll_mono e h2)
  | .dict _, _, h => by cases h
theorem dpAll_mono {H H' : Hp} (e : Ex H H') : ∀ {ps : List PyData} {vs : List V}, DpAll K H vs ps → DpAll K H' vs ps
  | [], _, h => by cases h; exact .nil
  | p :: ps, _, h => by
    cases h with
    | cons h1 h2 => exact .cons (dp_mono e h1) (dpAll_mono e h2)
end
theorem r2_eqD {p q : PyData} (hp : py d = some p) (hq : py e = some q) (sp : SeqAt.shaped p = true) (sq : SeqAt.shaped q = true) : R2d K (rEqD K) d e (.bl (PyData.eqv p q)) := fun F H x y s r1 r2 Q k =>
  ⟨p, q, dp_mono s (r1.dp hp), dp_mono s (r2.dp hq), sp, sq, k _ F H (Wk.refl s) rfl⟩
theorem r2_neD {p q : PyData} (hp : py d = some p) (hq : py e = some q) (sp : SeqAt.shaped p = true) (sq : SeqAt.shaped q = true) : R2d K (rNeD K) d e (.bl (!PyData.eqv p q)) := fun F H x y s r1 r2 Q k =>
  ⟨p, q, dp_mono s (r1.dp hp), dp_mono s (r2.dp hq), sp, sq, k _ F H (Wk.refl s) rfl⟩
end
end Pw
set_option maxHeartbeats 2000000
namespace Pw
open PySem PySem.Spec PyProof.Rows L2 Evl
def spF (K : PySem.W.Frag) (f : List Dt → Option Dt) : Sp := fun vs H Q _ => ∃ F ds d, Ex F H ∧ RpL K F ds vs ∧ f ds = some d ∧ Kq K F H d Q
section
variable {K : PySem.W.Frag} {env : En} {ta tb te tc : TE} {t u : TT} {d e z : Dt} {f : List Dt → Option Dt}
theorem spF_len {n : Nat} (hf : ∀ ds d, f ds = some d → ds.length = n) (vs : List V) (H : Hp) (Q : VK) (E : XK) (h : spF K f vs H Q E) : vs.length = n := by
  obtain ⟨F, ds, d, _, r, e, _⟩ := h
  rw [← r.length]
  exact hf ds d e
inductive Out where
  | nx (e : En) | ct (e : En) | nc (e : En) | bk (e : En) | rt (d : Dt)
def Po (K : PySem.W.Frag) (F0 H0 F : Hp) (D : Ends) : Out → Prop
  | .nx e => ∀ F' H' σ', Ex F F' → Sm K F0 H0 F' H' σ' e → D.nx σ' H'
  | .ct e => ∀ F' H' σ', Ex F F' → Sm K F0 H0 F' H' σ' e → D.ct σ' H'
  | .nc e => ∀ F' H' σ', Ex F F' → Sm K F0 H0 F' H' σ' e → D.nx σ' H' ∧ D.ct σ' H'
  | .bk e => ∀ F' H' σ', Ex F F' → Sm K F0 H0 F' H' σ' e → D.bk σ' H'
  | .rt d => ∀ v F' H', Wk F0 H0 F' H' → Rp K F' d v → D.rt v H'
def Se (K : PySem.W.Frag) (t : TS) (env : En) (o : Out) : Prop := ∀ F0 H0 F H σ D, Sm K F0 H0 F H σ env → Po K F0 H0 F D o → t D σ H
def Ge (K : PySem.W.Frag) (g : TG) (d : Dt) (env env' : En) : Prop := ∀ F0 H0 F H σ v, Sm K F0 H0 F H σ env → Rp K F d v → ∀ Q : L2.St → Hp → Prop, (∀ σ', Sm K F0 H0 F H σ' env' → Q σ' H) → g v σ H Q
variable {s s1 s2 : TS} {o : Out} {env1 env2 : En} {g : TG}
theorem Po.ex {F0 H0 F F' : Hp} {D : Ends} (e : Ex F F') (p : Po K F0 H0 F D o) : Po K F0 H0 F' D o := by
  cases o with
  | nx e1 => exact fun F2 H2 σ2 e2 S => p F2 H2 σ2 (e.trans e2) S
  | ct e1 => exact fun F2 H2 σ2 e2 S => p F2 H2 σ2 (e.trans e2) S
  | nc e1 => exact fun F2 H2 σ2 e2 S => p F2 H2 σ2 (e.trans e2) S
  | bk e1 => exact fun F2 H2 σ2 e2 S => p F2 H2 σ2 (e.trans e2) S
  | rt d => exact p
theorem ge_name {i : Nat} : Ge K (gName i) d env (env.set i (.d d)) := fun F0 H0 F H σ v S r Q q => q _ (S.setD r)
theorem se_asgG (h : Ee K te env d) (hg : Ge K g d env env1) : Se K (tAsg te g) env (.nx env1) := fun F0 H0 F H σ D S p =>
  h F0 H0 F H σ S _ fun v F1 H1 w r => hg F0 H0 F1 H1 σ v (S.wk w) r _ fun σ' S' => p F1 H1 σ' w.f S'
theorem se_asg {i : Nat} (h : Ee K te env d) : Se K (tAsg te (gName i)) env (.nx (env.set i (.d d))) := se_asgG h ge_name
theorem Sm.setU {F0 H0 F H : Hp} {σ : L2.St} (S : Sm K F0 H0 F H σ env) (i : Nat) : Sm K F0 H0 F H (σ.set i none) (env.set i .u) :=
  ⟨S.e0, S.g, by simp [S.len], fun j s e => by
    rcases get_set e with ⟨rfl, rfl, l⟩ | ⟨ne, e⟩
    · exact ⟨none, set_same (by rw [S.len]; exact l), rfl⟩
    · rw [set_ne ne]
      exact S.sl j s e, fun a b ds es p ne e1 e2 h => by
    rcases get_set e1 with ⟨_, z, _⟩ | ⟨n1, e1⟩
    · cases z
    · rcases get_set e2 with ⟨_, z, _⟩ | ⟨n2, e2⟩
      · cases z
      · rw [set_ne n1] at h
        rw [set_ne n2]
        exact S.df a b ds es p ne e1 e2 h⟩
/-- x = a new list that will be changed -/
theorem se_own {i : Nat} {ds : List Dt} (h : EnL K te env ds) : Se K (tAsg te (gName i)) env (.nx (env.set i (.ol ds))) := fun F0 H0 F H σ D S p =>
  h F0 H0 F H σ S _ fun a vs F1 H1 w n1 n2 h1 r => p F1 H1 _ w.f ((S.wk w).setL n2 (none_sub S.g.h n1) h1 r fun j es e z => by
    obtain ⟨v, k1, p, us, rfl, _, _, k3, _⟩ := S.sl j _ e
    rw [k1] at z
    cases z
    rw [n1] at k3
    cases k3)
theorem se_ret (h : Ee K te env d) : Se K (tRet te) env (.rt d) := fun F0 H0 F H σ D S p => h F0 H0 F H σ S _ fun v F1 H1 w r => p v F1 H1 (S.g.trans w) r
theorem se_next : Se K tNext env (.nx env) := fun F0 H0 F H σ D S p => p F H σ (Ex.refl F) S
theorem se_drop (h : Ee K te env d) : Se K (tDrop te) env (.nx env) := fun F0 H0 F H σ D S p => h F0 H0 F H σ S _ fun v F1 H1 w r => p F1 H1 σ w.f (S.wk w)
theorem se_seq (h1 : Se K s1 env (.nx env1)) (h2 : Se K s2 env1 o) : Se K (tSeq s1 s2) env o := fun F0 H0 F H σ D S p =>
  h1 F0 H0 F H σ _ S fun F1 H1 σ1 e1 S1 => h2 F0 H0 F1 H1 σ1 D S1 (p.ex e1)
theorem se_nc (h : Se K s env (.nx env1)) : Se K s env (.nc env1) := fun F0 H0 F H σ D S p => h F0 H0 F H σ D S fun F1 H1 σ1 e1 S1 => (p F1 H1 σ1 e1 S1).1
theorem se_cc (h : Se K s env (.ct env1)) : Se K s env (.nc env1) := fun F0 H0 F H σ D S p => h F0 H0 F H σ D S fun F1 H1 σ1 e1 S1 => (p F1 H1 σ1 e1 S1).2
theorem se_if {b : Bool} (h : Te K t env b) (h1 : b = true → Se K s1 env o) (h2 : b = false → Se K s2 env o) : Se K (tIfS t s1 s2) env o := fun F0 H0 F H σ D S p => h F0 H0 F H σ S _ fun F1 H1 w => by
  cases b with
  | true =>
    show s1 D σ H1
    exact h1 rfl F0 H0 F1 H1 σ D (S.wk w) (p.ex w.f)
  | false =>
    show s2 D σ H1
    exact h2 rfl F0 H0 F1 H1 σ D (S.wk w) (p.ex w.f)
/-- if t: s1 (no else), then s2 -/
theorem se_when {b : Bool} (h : Te K t env b) (h1 : b = true → Se K (tSeq s1 s2) env o) (h2 : b = false → Se K s2 env o) : Se K (tSeq (tIfS t s1 tNext) s2) env o := fun F0 H0 F H σ D S p => h F0 H0 F H σ S _ fun F1 H1 w => by
  cases b with
  | true =>
    show s1 { D with nx := s2 D } σ H1
    exact h1 rfl F0 H0 F1 H1 σ D (S.wk w) (p.ex w.f)
  | false =>
    show s2 D σ H1
    exact h2 rfl F0 H0 F1 H1 σ D (S.wk w) (p.ex w.f)
/-- if t: s1 else: s2, then s -/
theorem se_ifq {b : Bool} (h : Te K t env b) (h1 : b = true → Se K (tSeq s1 s) env o) (h2 : b = false → Se K (tSeq s2 s) env o) : Se K (tSeq (tIfS t s1 s2) s) env o := fun F0 H0 F H σ D S p => h F0 H0 F H σ S _ fun F1 H1 w => by
  cases b with
  | true =>
    show s1 { D with nx := s D } σ H1
    exact h1 rfl F0 H0 F1 H1 σ D (S.wk w) (p.ex w.f)
  | false =>
    show s2 { D with nx := s D } σ H1
    exact h2 rfl F0 H0 F1 H1 σ D (S.wk w) (p.ex w.f)
theorem se_le (h : Se K s env (.nx env1)) (l : Le env1 env2) : Se K s env (.nx env2) := fun F0 H0 F H σ D S p => h F0 H0 F H σ D S fun F1 H1 σ1 e1 S1 => p F1 H1 σ1 e1 (S1.le l)
theorem se_pre (l : Le env env1) (h : Se K s env1 o) : Se K s env o := fun F0 H0 F H σ D S p => h F0 H0 F H σ D (S.le l) p
theorem se_freeze {i : Nat} {ds : List Dt} (hi : env[i]? = some (.ol ds)) (h : Se K s (env.set i (.d (.lst ds))) o) : Se K s env o := fun F0 H0 F H σ D S p => by
  obtain ⟨a, vs, h1, h2, h3, h4, S'⟩ := S.freeze hi
  exact h F0 H0 _ H σ D S' (p.ex (Ex.new h2))
theorem se_is (h : Se K s env o) {o' : Out} (e : o = o') : Se K s env o' := by
  rw [← e]
  exact h
theorem Sm.mutL {F0 H0 F H : Hp} {σ : L2.St} (S : Sm K F0 H0 F H σ env) {i : Nat} {ds es : List Dt} {p : Addr} {us : List V} (hi : env[i]? = some (.ol ds)) (hp : σ[i]? = some (some (.ref p))) (r : RpL K F es us) :
    Sm K F0 H0 F (L2.upd H p (.lst us)) σ (env.set i (.ol es)) := by
  obtain ⟨v, h1, q, vs, rfl, g1, g2, g3, g4⟩ := S.sl i _ hi
  rw [hp] at h1
  cases h1
  refine ⟨S.e0, ⟨S.g.f, fun a u z => ?_, fun a u z => ?_, S.g.n⟩, by simp [S.len], fun j s e => ?_, fun a b ds1 es1 q ne e1 e2 h => ?_⟩
  · rw [upd_ne (ne_of_none z g2)]
    exact S.g.h a u z
  · rw [upd_ne (ne_of_none z g1)]
    exact S.g.s a u z
  · rcases get_set e with ⟨rfl, rfl, l⟩ | ⟨ne, e⟩
    · exact ⟨_, hp, p, us, rfl, g1, g2, upd_same, r⟩
    · obtain ⟨w, k1, k2⟩ := S.sl j s e
      refine ⟨w, k1, ?_⟩
      cases s with
      | x => trivial
      | u => exact k2
      | d d => exact k2
      | ol es1 =>
        obtain ⟨q, us1, eq, f1, f2, f3, f4⟩ := k2
        have nq : q ≠ p := fun z => S.df i j ds es1 p ne hi e hp (by rw [k1, eq, z])
        exact ⟨q, us1, eq, f1, f2, by rw [upd_ne nq]; exact f3, f4⟩
  · rcases get_set e1 with ⟨ra, z1, _⟩ | ⟨n1, e1⟩
    · rcases get_set e2 with ⟨rb, z2, _⟩ | ⟨n2, e2⟩
      · exact absurd (ra.symm.trans rb) ne
      · subst ra
        exact S.df i b ds es1 q ne hi e2 h
    · rcases get_set e2 with ⟨rb, z2, _⟩ | ⟨n2, e2⟩
      · subst rb
        exact S.df a i ds1 ds q ne e1 hi h
      · exact S.df a b ds1 es1 q ne e1 e2 h
theorem se_app {i : Nat} {ds : List Dt} (hi : env[i]? = some (.ol ds)) (h : Ee K te env d) (hz : ds.length < 100000) : Se K (tDrop (tBM K "list" rAppend (tVar i) (tCons te tNil))) env (.nx (env.set i (.ol (ds ++ [d])))) := fun F0 H0 F H σ D S p => by
  obtain ⟨v, h1, a, vs, rfl, g1, g2, g3, g4⟩ := S.sl i _ hi
  refine ⟨_, h1, .inl ⟨rfl, vs, sq_of g3⟩, h F0 H0 F H σ S _ fun v F1 H1 w r => ⟨a, vs, v, rfl, rfl, w.h a _ g3, sz_lt (by rw [← g4.length]; exact hz), ?_⟩⟩
  exact p F1 _ σ w.f ((S.wk w).mutL hi h1 (RpL.append (g4.mono w.f) (RpL.cons r RpL.nil)))
theorem se_setL {i : Nat} {ds : List Dt} {k : Int} {n : Nat} (hi : env[i]? = some (.ol ds)) (h : Ee K te env d) (hk : Ee K tb env (.int k)) (hn : ixN ds.length k = some n) : Se K (tAsg te (gSub (tVar i) tb rSetL)) env (.nx (env.set i (.ol (ds.set n d)))) := fun F0 H0 F H σ D S p => by
  obtain ⟨v, h1, a, vs, rfl, g1, g2, g3, g4⟩ := S.sl i _ hi
  refine h F0 H0 F H σ S _ fun v F1 H1 w r => ⟨_, h1, hk F0 H0 F1 H1 σ (S.wk w) _ fun kv F2 H2 w2 r2 => ⟨a, vs, k, n, rfl, r2, w2.h a _ (w.h a _ g3), by rw [← g4.length]; exact hn, ?_⟩⟩
  exact p F2 _ σ (w.f.trans w2.f) (((S.wk w).wk w2).mutL hi h1 (RpL.set n (g4.mono (w.f.trans w2.f)) (r.mono w2.f)))
theorem Sm.start {F H : Hp} {ds : List Dt} {vs : List V} {N : List Str} (e : Ex F H) (r : RpL K F ds vs) : Sm K F H F H (L2.start N vs) (ds.map Sl.d ++ List.replicate (N.length - ds.length) Sl.u) := by
  have hl := r.length
  refine ⟨e, Wk.refl e, by simp [L2.start, hl], fun i s h => ?_, fun i j es fs p ne e1 e2 _ => ?_⟩
  · unfold L2.start
    by_cases hi : i < ds.length
    · rw [List.getElem?_append_left (by simpa using hi), List.getElem?_map] at h
      cases q : ds[i]? with
      | none => rw [q] at h; cases h
      | some d =>
        rw [q] at h
        cases h
        obtain ⟨v, h1, h2⟩ := r.get q
        exact ⟨some v, by rw [List.getElem?_append_left (by simp; omega), List.getElem?_map, h1]; rfl, v, rfl, h2⟩
    · rw [List.getElem?_append_right (by simpa using hi), List.length_map, List.getElem?_replicate] at h
      split at h
      · rename_i lt
        cases h
        exact ⟨none, by rw [List.getElem?_append_right (by simp; omega), List.length_map, List.getElem?_replicate, if_pos (by omega)], rfl⟩
      · cases h
  · by_cases hi : i < ds.length
    · rw [List.getElem?_append_left (by simpa using hi), List.getElem?_map] at e1
      cases q : ds[i]? <;> rw [q] at e1 <;> cases e1
    · rw [List.getElem?_append_right (by simpa using hi), List.length_map, List.getElem?_replicate] at e1
      split at e1 <;> cases e1
theorem run_rt {s : TS} {N : List Str} {vs : List V} {H : Hp} {Q : VK} {E : XK} (h : spF K f vs H Q E) (b : ∀ ds d, f ds = some d → Se K s (ds.map Sl.d ++ List.replicate (N.length - ds.length) Sl.u) (.rt d)) : s { nx := fun _ H' => Q .non H', rt := Q } (L2.start N vs) H := by
  obtain ⟨F, ds, d, e, r, hf, q⟩ := h
  exact b ds d hf F H F H _ _ (Sm.start e r) fun v F' H' w r' => q v F' H' w r'
def Wl (K : PySem.W.Frag) (F1 : Hp) (J : It) (ds : List Dt) : Prop := Walk J ds.length (fun H => Ex F1 H) (fun i H x H' => ∀ F2, Ex F1 F2 → Ex F2 H → ∃ F3 d, Wk F2 H F3 H' ∧ ds[i]? = some d ∧ Rp K F3 d x)
def Ie (K : PySem.W.Frag) (wi : TI) (env : En) (ds : List Dt) : Prop := ∀ F0 H0 F H σ, Sm K F0 H0 F H σ env → ∀ R : It → Hp → Prop, (∀ J F' H', Wk F H F' H' → Wl K F' J ds → R J H') → wi σ H R
theorem wl_at {F : Hp} {ds : List Dt} {vs : List V} {J : It} {G : Hp → Prop} (r : RpL K F ds vs) (w : Walk J vs.length G (YAt vs)) (hg : ∀ H, Ex F H → G H) : Wl K F J ds := by
  unfold Wl
  rw [r.length]
  refine w.mono hg fun i H x H' hi e y F2 e2 e3 => ?_
  obtain ⟨rfl, hx⟩ := y
  obtain ⟨d, h1, h2⟩ := r.getV hx
  exact ⟨F2, d, Wk.refl e3, h1, h2.mono e2⟩
def rangeD (lo : Int) (n : Nat) : List Dt := (List.range n).map fun (i : Nat) => Dt.int (lo + i)
theorem rangeD_len (lo : Int) (n : Nat) : (rangeD lo n).length = n := by simp [rangeD]
theorem wl_range {F : Hp} {lo : Int} {n : Nat} : Wl K F (Itr lo n) (rangeD lo n) := by
  unfold Wl
  rw [rangeD_len]
  refine walk_range.mono (fun _ _ => trivial) fun i H x H' hi e y F2 e2 e3 => ?_
  obtain ⟨rfl, rfl⟩ := y
  exact ⟨F2, .int (lo + i), Wk.refl e3, by simp [rangeD, hi], rfl⟩
def charsD (w : Str) : List Dt := w.cps.toList.map fun c => Dt.str ⟨#[c]⟩
theorem se_for {wi : TI} {tb : TS} {ds : List Dt} (hI : Ie K wi env ds) (E : Nat → En) (m : Nat) (hm : m ≤ ds.length) (h0 : Le env (E 0))
    (hs : ∀ i d, i < m → ds[i]? = some d → ∃ e1, Ge K g d (E i) e1 ∧ Se K tb e1 (.nc (E (i + 1))))
    (hd : (m = ds.length ∧ o = .nx (E m)) ∨ ∃ d e1, ds[m]? = some d ∧ Ge K g d (E m) e1 ∧ ((∃ z, o = .rt z ∧ Se K tb e1 (.rt z)) ∨ ∃ e, o = .nx e ∧ Se K tb e1 (.bk e))) : Se K (tFor wi g tb) env o := fun F0 H0 F H σ D S p =>
  hI F0 H0 F H σ S _ fun J F1 H1 w W => by
    refine for_it W (fun i σ H => i ≤ m ∧ ∃ F, Ex F1 F ∧ Sm K F0 H0 F H σ (E i)) ⟨Nat.zero_le m, F1, Ex.refl F1, (S.wk w).le h0⟩ (fun i σ H _ h => ?_) (fun i x σ H H' hi h y => ?_) (fun σ H h => ?_)
    · obtain ⟨_, F2, e2, S2⟩ := h
      exact e2.trans S2.sub
    · obtain ⟨him, F2, e2, S2⟩ := h
      obtain ⟨F3, d, w3, hd', r3⟩ := y F2 e2 S2.sub
      by_cases hlt : i < m
      · obtain ⟨e1, hg, hb⟩ := hs i d hlt hd'
        refine hg F0 H0 F3 H' σ x (S2.wk w3) r3 _ fun σ3 S3 => ?_
        refine hb F0 H0 F3 H' σ3 _ S3 fun F4 H4 σ4 e4 S4 => ⟨⟨hlt, F4, (e2.trans w3.f).trans e4, S4⟩, ⟨hlt, F4, (e2.trans w3.f).trans e4, S4⟩⟩
      · have him' : i = m := by omega
        subst him'
        rcases hd with ⟨e, _⟩ | ⟨d', e1, h1, hg, hb⟩
        · omega
        · rw [hd'] at h1
          cases h1
          refine hg F0 H0 F3 H' σ x (S2.wk w3) r3 _ fun σ3 S3 => ?_
          rcases hb with ⟨z, rfl, hz⟩ | ⟨e, rfl, hz⟩
          · exact hz F0 H0 F3 H' σ3 _ S3 p
          · exact hz F0 H0 F3 H' σ3 _ S3 fun F4 H4 σ4 e4 S4 => p F4 H4 σ4 (((w.f.trans e2).trans w3.f).trans e4) S4
    · obtain ⟨hn, F2, e2, S2⟩ := h
      have e : m = ds.length := by omega
      rcases hd with ⟨_, rfl⟩ | ⟨d', e1, h1, _⟩
      · rw [← e] at S2
        exact p F2 H σ (w.f.trans e2) S2
      · have := (List.getElem?_eq_some_iff.mp h1).1
        omega
/-- a fold -/
theorem se_fold {α S : Type} {wi : TI} {tb : TS} {ds : List Dt} (xs : List α) (dec : α → Dt) (hds : ds = xs.map dec) (hI : Ie K wi env ds) (enc : S → En) (step : S → α → S) (P : S → List α → Prop) (s0 : S) (h0 : Le env (enc s0)) (p0 : P s0 [])
    (hs : ∀ s pre a post, xs = pre ++ a :: post → P s pre → P (step s a) (pre ++ [a]) ∧ ∃ e1, Ge K g (dec a) (enc s) e1 ∧ Se K tb e1 (.nc (enc (step s a)))) : Se K (tFor wi g tb) env (.nx (enc (xs.foldl step s0))) := by
  subst hds
  have key : ∀ i, i ≤ xs.length → P ((xs.take i).foldl step s0) (xs.take i) := by
    intro i
    induction i with
    | zero => intro _; exact p0
    | succ i ih =>
      intro hi
      have hx : xs = xs.take i ++ xs[i] :: xs.drop (i + 1) := by simp
      have e : xs.take (i + 1) = xs.take i ++ [xs[i]] := by simp
      rw [e, List.foldl_append]
      exact (hs _ (xs.take i) xs[i] (xs.drop (i + 1)) hx (ih (by omega))).1
  refine se_for hI (fun i => enc ((xs.take i).foldl step s0)) xs.length (by simp) h0 (fun i d hi hd => ?_) (.inl ⟨by simp, by simp⟩)
  rw [List.getElem?_map, List.getElem?_eq_getElem hi] at hd
  cases hd
  have hx : xs = xs.take i ++ xs[i] :: xs.drop (i + 1) := by simp
  obtain ⟨_, e1, h1, h2⟩ := hs _ (xs.take i) xs[i] (xs.drop (i + 1)) hx (key i (by omega))
  refine ⟨e1, h1, ?_⟩
  have e : xs.take (i + 1) = xs.take i ++ [xs[i]] := by simp
  rw [e, List.foldl_append]
  exact h2
theorem se_while {tb : TS} (P : En → Prop) (μ : En → Nat) (hs : ∀ e, P e → ∃ b, Te K t e b ∧ (b = true → (∃ e', P e' ∧ μ e' < μ e ∧ Se K tb e (.nc e')) ∨ (∃ z, o = .rt z ∧ Se K tb e (.rt z)) ∨ ∃ e', o = .nx e' ∧ Se K tb e (.bk e')) ∧ (b = false → o = .nx e)) (h0 : P env) : Se K (tWhile t tb) env o := fun F0 H0 F H σ D S p => by
  refine ⟨fun m σ' H' => ∃ e F', P e ∧ μ e = m ∧ Ex F F' ∧ Sm K F0 H0 F' H' σ' e, ⟨_, env, F, h0, rfl, Ex.refl F, S⟩, ?_⟩
  rintro m σ' H' ⟨e, F', hP, rfl, ex, S'⟩
  obtain ⟨b, hb, h1, h2⟩ := hs e hP
  refine hb F0 H0 F' H' σ' S' _ fun F1 H1 w => ?_
  cases b with
  | true =>
    refine ⟨fun σ2 H2 => ∃ e2 F2, P e2 ∧ μ e2 < μ e ∧ Ex F F2 ∧ Sm K F0 H0 F2 H2 σ2 e2, fun σ2 H2 ⟨e2, F2, a, b, c, d⟩ => ⟨μ e2, b, e2, F2, a, rfl, c, d⟩, ?_⟩
    rcases h1 rfl with ⟨e', p1, p2, p3⟩ | ⟨z, rfl, p3⟩ | ⟨e', rfl, p3⟩
    · exact p3 F0 H0 F1 H1 σ' _ (S'.wk w) fun F4 H4 σ4 e4 S4 => ⟨⟨e', F4, p1, p2, (ex.trans w.f).trans e4, S4⟩, ⟨e', F4, p1, p2, (ex.trans w.f).trans e4, S4⟩⟩
    · exact p3 F0 H0 F1 H1 σ' _ (S'.wk w) p
    · exact p3 F0 H0 F1 H1 σ' _ (S'.wk w) fun F4 H4 σ4 e4 S4 => p F4 H4 σ4 ((ex.trans w.f).trans e4) S4
  | false =>
    have := h2 rfl
    subst this
    exact p F1 H1 σ' (ex.trans w.f) (S'.wk w)
end
end Pw
set_option maxHeartbeats 2000000
namespace Pw
open PySem PySem.Spec PyProof.Rows L2 Evl
/-- the def x of the text stands behind the top as st tells it -/
def Df (K : PySem.W.Frag) (mg : Str → Option Value) (x : Str) (ps : List Str) (st : Stmt) : Prop :=
  ∃ f fd, mg x = some (.ref f) ∧ FunD K x x (defArgs st) (defBody st) (defScope st) [] [] f fd ∧ Binds K fd ps []
/-- x is called by name and keeps sp -/
def Fn (P : Program) (w : World) (K : PySem.W.Frag) (mg : Str → Option Value) (base : Heap) (k : Nat) (x : Str) (ps : List Str) (sp : Sp) : Prop :=
  ∃ f fd, mg x = some (.ref f) ∧ PySem.W.keepIn K (.ref f) = true ∧ Binds K fd ps [] ∧ FnOk P w K mg base CX0 k f fd ps sp
section
variable {P : Program} {w : World} {K : PySem.W.Frag} {mg : Str → Option Value} {base : Heap}
theorem Fn.mono {j k : Nat} {x : Str} {ps : List Str} {sp : Sp} (F : Fn P w K mg base j x ps sp) (h : j ≤ k) : Fn P w K mg base k x ps sp := by
  obtain ⟨f, fd, h1, h2, h3, h4⟩ := F
  exact ⟨f, fd, h1, h2, h3, h4.mono h⟩
theorem Fn.imp {k : Nat} {x : Str} {ps : List Str} {sp sp' : Sp} (F : Fn P w K mg base k x ps sp) (h : ∀ vs H Q E, sp' vs H Q E → sp vs H Q E) : Fn P w K mg base k x ps sp' := by
  obtain ⟨f, fd, h1, h2, h3, h4⟩ := F
  exact ⟨f, fd, h1, h2, h3, h4.imp h⟩
/-- THE RULE for a def that is a function of data -/
theorem Fn.of {x : Str} {ps N : List Str} {st : Stmt} {k : Nat} {m : List Dt → Option Dt} (D : Df K mg x ps st) (S : FnScope N ps (defScope st)) (hl : ∀ ds d, m ds = some d → ds.length = ps.length)
    (hb : ∀ (f : Addr) (cdv : Value) (A : Around) (outer : List Env) (s : Shared) (H : Hp) (E : XK), Room k (A.deeper (envOfC x (defScope st) s.heap.objs.size f cdv)) →
      ∃ t, PSs (cxOf CX0 P w K mg base N x (defScope st) f cdv A outer s H E).nox (defBody st) t ∧ ∀ ds d, m ds = some d → Se K t (ds.map Sl.d ++ List.replicate (N.length - ds.length) Sl.u) (.rt d)) :
    Fn P w K mg base (k + 1) x ps (spF K m) := by
  obtain ⟨f, fd, h1, F, h3⟩ := D
  refine ⟨f, fd, h1, F.kp, h3, F.ok S (fun vs H Q E h => spF_len hl vs H Q E h) fun cdv A outer s H vs Q E hr h => ?_⟩
  obtain ⟨t, ht, hs⟩ := hb f cdv A outer s H E hr
  exact ⟨t, PSs.nox ht, run_rt h hs⟩
end
section
variable {X : Cx}
/-- a builtin, a built-in type, called; given that the module does not name it -/
theorem pset {i : Nat} {x : Str} {e : Expr} {te : TE} {pos pos' : Pos} (hN : X.N.Nodup) (he : PE X e te) (hi : X.N[i]? = some x := by rfl) (hx : Loc X.env.scope x := by first | exact Or.inl rfl | exact Or.inr rfl) (hs : swapsWith e (some (.Name x pos')) pos.line X.env = pure false := by rfl)
    (hf : X.fn x = true ∨ X.env.scope.names.lookup x = some .local := by first | exact .inl rfl | exact .inr rfl | assumption) : PS X (.Assign [.Name x pos'] e pos) (tAsg te (gName i)) := ps_set hN hi hx he hs hf
theorem pgn {i : Nat} {x : Str} {pos : Pos} (hN : X.N.Nodup) (hi : X.N[i]? = some x := by rfl) (hx : Loc X.env.scope x := by first | exact Or.inl rfl | exact Or.inr rfl)
    (hf : X.fn x = true ∨ X.env.scope.names.lookup x = some .local := by first | exact .inl rfl | exact .inr rfl | assumption) : PG X (.Name x pos) (gName i) := pg_name hN hi hx hf
/-- isinstance(x, T) for a built-in T -/
theorem pe_tyname {x : Str} {n : String} {pos : Pos} (hm : X.mg x = none) (hg : Gl X x := by rfl) (hv : bootBuiltins x = some (.type n) := by decide +kernel) (hn : x ≠ "__name__" := by decide) (hdb : (x == ("__debug__" : Str)) = false := by decide) : PE X (.Name x pos) (tC (.ty n)) := pe_bltn hg hm hv rfl hn hdb
end
section
variable {K : PySem.W.Frag} {d e z : Dt} {ds : List Dt}
/-- the type's name of data -/
def tyD : Dt → Option String
  | .non => some "NoneType"
  | .bl _ => some "bool"
  | .int _ => some "int"
  | .str _ => some "str"
  | .tup _ => some "tuple"
  | .lst _ => some "list"
  | .dic _ _ => some "dict"
  | .dit _ _ => some "dict"
  | _ => none
theorem tyX_l {H : Hp} {a : Addr} {xs : List V} (h : SqL K H a xs) : TyX K H (.ref a) (.type "list") := by
  rcases h with (h | ⟨o, h⟩) | ⟨o, its, n, h1, h2, _⟩
  · exact .base (.lst h)
  · exact .base (.frz h)
  · exact .kList h1 h2
theorem tyX_t {H : Hp} {a : Addr} {xs : List V} (h : SqT K H a xs) : TyX K H (.ref a) (.type "tuple") := by
  rcases h with (h | ⟨o, h⟩) | ⟨o, its, n, h1, h2, _⟩
  · exact .base (.tup h)
  · exact .fTuple h
  · exact .kTuple h1 h2
theorem tyX_of {F H : Hp} {v : V} {n : String} (s : Ex F H) (r : Rp K F d v) (h : tyD d = some n) : TyX K H v (.type n) := by
  cases d <;> simp only [tyD, Option.some.injEq, reduceCtorEq] at h <;> subst h
  · cases r; exact .base .non
  · cases r; exact .base (.bl _)
  · cases r; exact .base (.int _)
  · cases r; exact .base (.str _)
  · obtain ⟨a, vs, rfl, h1, _⟩ := r
    exact tyX_t (ex_t s h1)
  · obtain ⟨a, vs, rfl, h1, _⟩ := r
    exact tyX_l (ex_l s h1)
  · obtain ⟨a, vs, rfl, h1, _⟩ := r
    exact .base (.dK (s _ _ h1))
  · obtain ⟨a, vs, rfl, h1, _⟩ := r
    exact .base (.dT (s _ _ h1))
theorem rl_isi {n t : String} {b : Bool} (h : tyD d = some n) (hb : kitB n t = some b) : RLd K (rIsi K) [d, .ty t] (.bl b) := fun F H vs s r Q q => by
  obtain ⟨v, r1, rfl, e1, v2, r2, rfl, e2, e3⟩ := r
  cases e2; cases e3
  exact ⟨v, .ty t, .type n, .type t, b, rfl, .ty t, tyX_of s e1 h, kit_ty hb, q _ F H (Wk.refl s) rfl⟩
theorem rl_lenS {w : Str} (h : w.length ≤ 100000) : RLd K (fun xs H Q => ∃ z, xs = [.str z] ∧ z.length ≤ sizeLine ∧ Q (.int z.length) H) [.str w] (.int w.length) := fun F H vs s r Q q => by
  obtain ⟨v, r1, rfl, e1, e2⟩ := r
  cases e1; cases e2
  exact ⟨w, rfl, sz_of h, q _ F H (Wk.refl s) rfl⟩
theorem rl_len : RLd K (rLenS K) [.lst ds] (.int ds.length) := fun F H vs s r Q q => by
  obtain ⟨v, r1, rfl, ⟨a, us, rfl, h1, h2⟩, e2⟩ := r
  cases e2
  refine ⟨a, us, rfl, .inl (ex_l s h1), ?_⟩
  rw [← h2.length]
  exact q _ F H (Wk.refl s) rfl
theorem rl_lenT : RLd K (rLenS K) [.tup ds] (.int ds.length) := fun F H vs s r Q q => by
  obtain ⟨v, r1, rfl, ⟨a, us, rfl, h1, h2⟩, e2⟩ := r
  cases e2
  refine ⟨a, us, rfl, .inr (ex_t s h1), ?_⟩
  rw [← h2.length]
  exact q _ F H (Wk.refl s) rfl
theorem rn_list : RLn K (rListS K) [.lst ds] ds := fun F H vs s r Q q => by
  obtain ⟨v, r1, rfl, ⟨a, us, rfl, h1, h2⟩, e2⟩ := r
  cases e2
  exact ⟨a, us, rfl, .inl (ex_l s h1), fun l hl => q l us F _ (Wk.own s _ hl) hl (none_sub s hl) upd_same h2⟩
theorem rn_listT : RLn K (rListS K) [.tup ds] ds := fun F H vs s r Q q => by
  obtain ⟨v, r1, rfl, ⟨a, us, rfl, h1, h2⟩, e2⟩ := r
  cases e2
  exact ⟨a, us, rfl, .inr (ex_t s h1), fun l hl => q l us F _ (Wk.own s _ hl) hl (none_sub s hl) upd_same h2⟩
def rTupS (K : PySem.W.Frag) : List V → Hp → VK → Prop := fun xs H Q => ∃ p ys, xs = [.ref p] ∧ ((SqL K H p ys ∧ ∀ l, H l = none → Q (.ref l) (upd H l (.tup ys))) ∨ (SqT K H p ys ∧ Q (.ref p) H))
theorem rl_tup : RLd K (rTupS K) [.lst ds] (.tup ds) := fun F H vs s r Q q => by
  obtain ⟨v, r1, rfl, ⟨a, us, rfl, h1, h2⟩, e2⟩ := r
  cases e2
  exact ⟨a, us, rfl, .inl ⟨ex_l s h1, fun l hl => q _ (upd F l (.tup us)) _ (Wk.new s _ hl) ⟨l, us, rfl, SqT.of upd_same, h2.mono (Ex.new (none_sub s hl))⟩⟩⟩
theorem rl_tupT : RLd K (rTupS K) [.tup ds] (.tup ds) := fun F H vs s r Q q => by
  obtain ⟨v, r1, rfl, ⟨a, us, rfl, h1, h2⟩, e2⟩ := r
  cases e2
  exact ⟨a, us, rfl, .inr ⟨ex_t s h1, q _ F H (Wk.refl s) ⟨a, us, rfl, h1, h2⟩⟩⟩
def rInt1 : List V → Hp → VK → Prop := fun xs H Q => (∃ i, xs = [.int i] ∧ Q (.int i) H) ∨ ∃ k, xs = [.bl k] ∧ Q (.int (if k then 1 else 0)) H
theorem rl_int {i : Int} : RLd K rInt1 [.int i] (.int i) := fun F H vs s r Q q => by
  obtain ⟨v, r1, rfl, e1, e2⟩ := r
  cases e1; cases e2
  exact .inl ⟨i, rfl, q _ F H (Wk.refl s) rfl⟩
def rMin2 : List V → Hp → VK → Prop := fun xs H Q => ∃ i j, xs = [.int i, .int j] ∧ Q (.int (if j < i then j else i)) H
theorem rl_max2 {i j : Int} : RLd K rMax2 [.int i, .int j] (.int (if j > i then j else i)) := fun F H vs s r Q q => by
  obtain ⟨v, r1, rfl, e1, v2, r2, rfl, e2, e3⟩ := r
  cases e1; cases e2; cases e3
  exact ⟨i, j, rfl, q _ F H (Wk.refl s) rfl⟩
theorem rl_min2 {i j : Int} : RLd K rMin2 [.int i, .int j] (.int (if j < i then j else i)) := fun F H vs s r Q q => by
  obtain ⟨v, r1, rfl, e1, v2, r2, rfl, e2, e3⟩ := r
  cases e1; cases e2; cases e3
  exact ⟨i, j, rfl, q _ F H (Wk.refl s) rfl⟩
theorem rl_all {bs : List Bool} : RLd K (rAll K) [.lst (bs.map .bl)] (.bl (bs.all id)) := fun F H vs s r Q q => by
  obtain ⟨v, r1, rfl, ⟨a, us, rfl, h1, h2⟩, e2⟩ := r
  cases e2
  cases h2.bls
  exact ⟨a, bs, rfl, ex_l s h1, q _ F H (Wk.refl s) rfl⟩
theorem rl_any {bs : List Bool} : RLd K (rAny K) [.lst (bs.map .bl)] (.bl (bs.any id)) := fun F H vs s r Q q => by
  obtain ⟨v, r1, rfl, ⟨a, us, rfl, h1, h2⟩, e2⟩ := r
  cases e2
  cases h2.bls
  exact ⟨a, bs, rfl, ex_l s h1, q _ F H (Wk.refl s) rfl⟩
end
section
variable {X : Cx}
theorem cr_int : CallR X (.type "int") rInt1 := call_int1
theorem cr_min2 (hc : X.calm = true) : CallR X (.builtin "min") rMin2 := call_min2 hc
theorem cr_max2 (hc : X.calm = true) : CallR X (.builtin "max") rMax2 := call_max2 hc
theorem cr_list : CallR X (.type "list") (rListS X.K) := call_list_of
theorem cr_tuple : CallR X (.type "tuple") (rTupS X.K) := call_tuple_of
theorem cr_len : CallR X (.builtin "len") (rLenS X.K) := call_len_seq
end
end Pw
namespace Pw
open PySem PySem.Spec PyProof.Rows L2 Evl
section
variable {X : Cx}
theorem pe_globI {x : Str} {i : Int} {pos : Pos} (h : ∃ t, X.mg x = some (.int i t)) (hg : Gl X x := by rfl) (hd : (x == ("__debug__" : Str)) = false := by decide) : PE X (.Name x pos) (tC (.int i)) := by
  obtain ⟨t, h⟩ := h
  exact pe_glob hg h ⟨t, rfl⟩ hd
theorem pe_globS {x : Str} {i : Str} {pos : Pos} (h : ∃ t, X.mg x = some (.str i t)) (hg : Gl X x := by rfl) (hd : (x == ("__debug__" : Str)) = false := by decide) : PE X (.Name x pos) (tC (.str i)) := by
  obtain ⟨t, h⟩ := h
  exact pe_glob hg h ⟨t, rfl⟩ hd
end
end Pw
namespace Pw
open PySem PySem.Spec PyProof.Rows L2 Evl
def isI : Dt → Bool
  | .int _ => true
  | _ => false
def isB : Dt → Bool
  | .bl _ => true
  | _ => false
def isS : Dt → Bool
  | .str _ => true
  | _ => false
def isTp : Dt → Bool
  | .tup _ => true
  | _ => false
def isL : Dt → Bool
  | .lst _ => true
  | _ => false
section
variable {K : PySem.W.Frag} {d : Dt}
theorem rl_isInt (h : (tyD d).isSome = true) : RLd K (rIsi K) [d, .ty "int"] (.bl (isI d || isB d)) := by
  cases d
  · exact rl_isi rfl (show kitB "NoneType" "int" = some false by decide +kernel)
  · exact rl_isi rfl (show kitB "bool" "int" = some true by decide +kernel)
  · exact rl_isi rfl (show kitB "int" "int" = some true by decide +kernel)
  · exact rl_isi rfl (show kitB "str" "int" = some false by decide +kernel)
  · exact rl_isi rfl (show kitB "tuple" "int" = some false by decide +kernel)
  · exact rl_isi rfl (show kitB "list" "int" = some false by decide +kernel)
  · exact rl_isi rfl (show kitB "dict" "int" = some false by decide +kernel)
  · exact rl_isi rfl (show kitB "dict" "int" = some false by decide +kernel)
  all_goals cases h
theorem rl_isBool (h : (tyD d).isSome = true) : RLd K (rIsi K) [d, .ty "bool"] (.bl (isB d)) := by
  cases d
  · exact rl_isi rfl (show kitB "NoneType" "bool" = some false by decide +kernel)
  · exact rl_isi rfl (show kitB "bool" "bool" = some true by decide +kernel)
  · exact rl_isi rfl (show kitB "int" "bool" = some false by decide +kernel)
  · exact rl_isi rfl (show kitB "str" "bool" = some false by decide +kernel)
  · exact rl_isi rfl (show kitB "tuple" "bool" = some false by decide +kernel)
  · exact rl_isi rfl (show kitB "list" "bool" = some false by decide +kernel)
  · exact rl_isi rfl (show kitB "dict" "bool" = some false by decide +kernel)
  · exact rl_isi rfl (show kitB "dict" "bool" = some false by decide +kernel)
  all_goals cases h
theorem rl_isStr (h : (tyD d).isSome = true) : RLd K (rIsi K) [d, .ty "str"] (.bl (isS d)) := by
  cases d
  · exact rl_isi rfl (show kitB "NoneType" "str" = some false by decide +kernel)
  · exact rl_isi rfl (show kitB "bool" "str" = some false by decide +kernel)
  · exact rl_isi rfl (show kitB "int" "str" = some false by decide +kernel)
  · exact rl_isi rfl (show kitB "str" "str" = some true by decide +kernel)
  · exact rl_isi rfl (show kitB "tuple" "str" = some false by decide +kernel)
  · exact rl_isi rfl (show kitB "list" "str" = some false by decide +kernel)
  · exact rl_isi rfl (show kitB "dict" "str" = some false by decide +kernel)
  · exact rl_isi rfl (show kitB "dict" "str" = some false by decide +kernel)
  all_goals cases h
theorem rl_isTup (h : (tyD d).isSome = true) : RLd K (rIsi K) [d, .ty "tuple"] (.bl (isTp d)) := by
  cases d
  · exact rl_isi rfl (show kitB "NoneType" "tuple" = some false by decide +kernel)
  · exact rl_isi rfl (show kitB "bool" "tuple" = some false by decide +kernel)
  · exact rl_isi rfl (show kitB "int" "tuple" = some false by decide +kernel)
  · exact rl_isi rfl (show kitB "str" "tuple" = some false by decide +kernel)
  · exact rl_isi rfl (show kitB "tuple" "tuple" = some true by decide +kernel)
  · exact rl_isi rfl (show kitB "list" "tuple" = some false by decide +kernel)
  · exact rl_isi rfl (show kitB "dict" "tuple" = some false by decide +kernel)
  · exact rl_isi rfl (show kitB "dict" "tuple" = some false by decide +kernel)
  all_goals cases h
theorem rl_isList (h : (tyD d).isSome = true) : RLd K (rIsi K) [d, .ty "list"] (.bl (isL d)) := by
  cases d
  · exact rl_isi rfl (show kitB "NoneType" "list" = some false by decide +kernel)
  · exact rl_isi rfl (show kitB "bool" "list" = some false by decide +kernel)
  · exact rl_isi rfl (show kitB "int" "list" = some false by decide +kernel)
  · exact rl_isi rfl (show kitB "str" "list" = some false by decide +kernel)
  · exact rl_isi rfl (show kitB "tuple" "list" = some false by decide +kernel)
  · exact rl_isi rfl (show kitB "list" "list" = some true by decide +kernel)
  · exact rl_isi rfl (show kitB "dict" "list" = some false by decide +kernel)
  · exact rl_isi rfl (show kitB "dict" "list" = some false by decide +kernel)
  all_goals cases h
end
end Pw
namespace Pw
open PySem PySem.Spec PyProof.Rows L2 Evl
section
variable {K : PySem.W.Frag} {env E : En} {g : TG} {tb : TS} {wi : TI} {ds : List Dt}
theorem find_split {α : Type} {p : α → Bool} : ∀ {l : List α} {d : α}, l.find? p = some d → ∃ i : Nat, l[i]? = some d ∧ p d = true ∧ ∀ (j : Nat) x, j < i → l[j]? = some x → p x = false
  | a :: l, d, h => by
    rw [List.find?_cons] at h
    cases q : p a with
    | true =>
      rw [q] at h
      cases h
      exact ⟨0, rfl, q, fun j x hj _ => by omega⟩
    | false =>
      rw [q] at h
      obtain ⟨i, h1, h2, h3⟩ := find_split h
      refine ⟨i + 1, by simpa using h1, h2, fun j x hj hx => ?_⟩
      cases j with
      | zero =>
        simp at hx
        rw [← hx]
        exact q
      | succ j => exact h3 j x (by omega) (by simpa using hx)
/-- a loop that searches: at the first d with p d it returns z d -/
theorem se_find (p : Dt → Bool) (z : Dt → Dt) (hI : Ie K wi env ds) (E : En) (h0 : Le env E) (hs : ∀ d ∈ ds, ∃ e1, Ge K g d E e1 ∧ (p d = true → Se K tb e1 (.rt (z d))) ∧ (p d = false → Se K tb e1 (.nc E))) :
    Se K (tFor wi g tb) env (match ds.find? p with | some d => .rt (z d) | none => .nx E) := by
  cases h : ds.find? p with
  | none =>
    have hn : ∀ d ∈ ds, p d = false := fun d hd => by
      have := List.find?_eq_none.mp h d hd
      simpa using this
    refine se_for hI (fun _ => E) ds.length (Nat.le_refl _) h0 (fun i d hi hd => ?_) (.inl ⟨rfl, rfl⟩)
    have hm := List.mem_of_getElem? hd
    obtain ⟨e1, h1, _, h3⟩ := hs d hm
    exact ⟨e1, h1, h3 (hn d hm)⟩
  | some d =>
    obtain ⟨i, h1, h2, h3⟩ := find_split h
    have hi : i < ds.length := (List.getElem?_eq_some_iff.mp h1).1
    refine se_for hI (fun _ => E) i (Nat.le_of_lt hi) h0 (fun j x hj hx => ?_) (.inr ?_)
    · obtain ⟨e1, g1, _, g3⟩ := hs x (List.mem_of_getElem? hx)
      exact ⟨e1, g1, g3 (h3 j x hj hx)⟩
    · obtain ⟨e1, g1, g2, _⟩ := hs d (List.mem_of_getElem? h1)
      exact ⟨d, e1, h1, g1, .inl ⟨z d, rfl, g2 h2⟩⟩
theorem itemD {α : Type} {l : List α} {i : Nat} (d : α) (h : i < l.length) : l[i]? = some (l.getD i d) := by
  rw [List.getD_eq_getElem?_getD, List.getElem?_eq_getElem h]
  rfl
/-- an item of a list at a remainder -/
theorem r2_ixM {i : Int} {n : Int} (h0 : 0 < n) (hn : n ≤ (ds.length : Int)) : R2d K (rIxL K) (.lst ds) (.int (i % n)) (ds.getD (i % n).toNat .non) := by
  have h1 := Int.emod_nonneg i (show n ≠ 0 by omega)
  have h2 := Int.emod_lt_of_pos i h0
  exact r2_ixL (ixN_at h1 (by omega)) (itemD _ (by omega))
end
end Pw
set_option maxHeartbeats 1000000
namespace Pw
open PySem PySem.Spec PyProof.Rows L2 Evl
end Pw
set_option maxHeartbeats 1000000
namespace Pw
open PySem PySem.Spec PyProof.Rows L2 Evl
/-- the promise of an __init__ that stores its two arguments -/
def spX2 (C : Addr) (f1 f2 : Str) : Sp := fun vs H Q _ => ∃ (a : Addr) (v1 v2 : V), vs = [.ref a, v1, v2] ∧ H a = some (exo a C none) ∧
  ∀ dx H', H dx = none → dx ≠ a → H' a = some (exo a C (some dx)) → H' dx = some (exd dx [(f2, v2), (f1, v1)]) → (∀ b, b ≠ a → b ≠ dx → H' b = H b) → Q .non H'
section
variable {K : PySem.W.Frag} {env : En} {te tb : TE} {ta : TA} {d e z : Dt} {ds : List Dt}
theorem zip_lookup {K : PySem.W.Frag} {F : Hp} {n : Str} : ∀ {fs : List Str} {ds : List Dt} {vs : List V} {d : Dt}, RpL K F ds vs → (fs.zip ds).lookup n = some d → ∃ v, (fs.zip vs).lookup n = some v ∧ Rp K F d v
  | [], ds, vs, d, _, h => by simp at h
  | f :: fs, [], vs, d, _, h => by simp at h
  | f :: fs, e :: ds, vs, d, r, h => by
    obtain ⟨v, r', rfl, q1, q2⟩ := r
    rw [List.zip_cons_cons, List.lookup_cons] at h ⊢
    by_cases z : (n == f) = true
    · rw [z] at h ⊢
      cases h
      exact ⟨v, rfl, q1⟩
    · have z : (n == f) = false := by simpa using z
      rw [z] at h ⊢
      exact zip_lookup q2 h
end
end Pw
namespace Pw
open PySem PySem.Spec PyProof.Rows L2 Evl
/-- the class x of the text, at C, makes exceptions by its own __init__ with the promise sp -/
def Xm (P : Program) (w : World) (K : PySem.W.Frag) (mg : Str → Option Value) (base : Heap) (x : Str) (C : Addr) (sp : Sp) : Prop :=
  ∃ (fI : Addr) (fd : FuncData) (ps : List Str), mg x = some (.ref C) ∧ OexC K C ∧ PySem.W.findIn K (.ref C) "__init__" = some (some (.ref fI)) ∧ PySem.W.typeIn K (.ref fI) = some (.type "function") ∧ Binds K fd ps [] ∧ FnOk P w K mg base CX0 1 fI fd ps sp
/-- .. without an __init__ -/
def Xm0 (K : PySem.W.Frag) (mg : Str → Option Value) (x : Str) (C : Addr) : Prop :=
  mg x = some (.ref C) ∧ PySem.W.excIn K C [.type "ValueError", .type "Exception", .type "BaseException", .type "object"] "ValueError.__new__" = true ∧ PySem.W.keepIn K (.ref C) = true
end Pw
namespace Pw
open PySem PySem.Spec PyProof.Rows L2 Evl
theorem pe_globR {X : Cx} {x : Str} {a : Addr} {pos : Pos} (h : X.mg x = some (.ref a)) (hg : Gl X x := by rfl) (hd : (x == ("__debug__" : Str)) = false := by decide) : PE X (.Name x pos) (tC (.ref a)) := pe_glob hg h rfl hd
end Pw
namespace Pw
open PySem PySem.Spec PyProof.Rows L2 Evl
section
variable {K : PySem.W.Frag} {env : En} {te : TE} {tA : TA} {g : TG} {tb : TS}
theorem rangeD_nat (n : Nat) : rangeD 0 (n : Int).toNat = (List.range n).map fun (i : Nat) => Dt.int (i : Int) := by
  unfold rangeD
  rw [Int.toNat_natCast]
  refine List.map_congr_left fun i _ => ?_
  rw [Int.zero_add]
end
end Pw
set_option maxHeartbeats 3200000
namespace Qs
open PySem PySem.Spec PyProof.Rows L2
def memK (ks : List Key) : Key → Bool := fun k => ks.any fun j => decide (k = j)
theorem setOf_eq {P : Program} {w : World} {h : Heap} {a : Addr} {S T : Key → Bool} {n : Nat} (q : h.SetOf (mixKind P w) a S n) (e : ∀ k, S k = T k) : h.SetOf (mixKind P w) a T n := (funext e : S = T) ▸ q
section
variable {prog : Program} {w : World} {A : Around} {R : Result → Shared → Prop} {I : Addr} {fp wr : List Addr}
  {G : Array GenState → Array GenState → Prop} {n : Nat} {Y : Nat → Value → Prop} {St : Nat → Shared → Prop}
def SetUp (prog : Program) (w : World) (S : Addr) (ks : List Key) (i : Nat) (h : Heap) : Prop :=
  ∃ m, m ≤ i ∧ h.SetOf (mixKind prog w) S (memK (ks.take i)) m
theorem SetUp.move {S : Addr} {ks : List Key} {i : Nat} {h h' : Heap} (q : SetUp prog w S ks i h) (k : ∀ o, h.get? S = some o → h'.get? S = some o) : SetUp prog w S ks i h' := by
  obtain ⟨m, hm, r⟩ := q
  exact ⟨m, hm, setOf_at r k⟩
theorem updates (W : WalksS prog w A.in1 I fp wr G n Y St) (S : Addr) (nS : S ∉ fp) (ks : List Key)
    (hY : ∀ i v, Y i v → ∃ k, ks[i]? = some k ∧ RelV (kV k) v) (hb : n + 1 < scanBound) :
    ∀ (left i : Nat) (s : Shared), n - i = left → i ≤ n → St i s → SetUp prog w S ks i s.heap →
      (∀ s', Moved (S :: wr) G s s' → SetUp prog w S ks n s'.heap → R (.ok (.ret .none)) s') →
      codeAny (model prog w) A (.builtin "set.update.loop" ⟨[.ref S, .ref I], []⟩) R s := by
  have nw : S ∉ wr := fun z => nS (W.sub _ z)
  have sub : ∀ b ∈ wr, b ∈ S :: wr := fun b z => List.mem_cons_of_mem _ z
  intro left
  induction left with
  | zero =>
    intro i s e le st up done
    obtain rfl : i = n := by omega
    refine codeAny_builtin F.entry_set_update_loop ?_
    rw [Around.under_plainId F.plain_set_update_loop _]
    refine wpAny_bind (m := pyNext (.ref I)) (W.done s _ _ st fun s' hm => ?_)
    exact wpAny_pure (done s' (hm.mono sub) (up.move fun o z => hm.heap S _ nw z))
  | succ left ih =>
    intro i s e le st up done
    have lt : i < n := by omega
    refine codeAny_builtin F.entry_set_update_loop ?_
    rw [Around.under_plainId F.plain_set_update_loop _]
    refine wpAny_bind (m := pyNext (.ref I)) (W.item i s _ _ lt st fun v s' y st' hm => ?_)
    obtain ⟨k, hk, rk⟩ := hY i v y
    obtain ⟨m, hmi, up'⟩ := up.move (h' := s'.heap) fun o z => hm.heap S _ nw z
    have isk := kV_is (P := prog) (w := w) rk
    refine wpAny_bind (m := holding [v] (setAdd S v)) (wpAny_holding ?_)
    unfold setAdd
    refine wpAny_holding (wpAny_bind ((mixKind prog w).pyHash isk ?_))
    refine wpAny_setAddHashed_of (s := { s' with toks := s'.toks + 1 }) isk (key_scan rk) up' (by omega) fun h' sb up2 => ?_
    have next : SetUp prog w S ks (i + 1) h' := by
      refine ⟨_, ?_, setOf_eq up2 fun j => ?_⟩
      · split <;> omega
      · show (memK (ks.take i) j || decide (j = k)) = memK (ks.take (i + 1)) j
        rw [List.take_add_one, hk]
        simp [memK]
    refine wpAny_pure ⟨plainId_quiet F.plain_set_update_loop _, ih (i + 1) _ (by omega) lt (W.frame _ s' _ _ st' (Nat.le_succ _) fun b hb o z => ?_) next fun s2 m2 u2 => ?_⟩
    · rw [sb.2 b (fun z : b = S => nS (z ▸ hb))]
      exact z
    · refine done s2 (Moved.trans W.gtrans ((hm.mono sub).then_heap (Nat.le_succ _) fun b o hb z => ?_) m2) u2
      rw [sb.2 b (fun z : b = S => hb (z ▸ List.mem_cons_self))]
      exact z
end
section
variable {prog : Program} {w : World} {A : Around} {E : Value → Shared → Prop} {s : Shared}
/-- what is known behind set(xs) -/
def SetMade (prog : Program) (w : World) (s : Shared) (ks : List Key) (h' : Heap) : Prop :=
  SetUp prog w s.heap.objs.size ks ks.length h' ∧ ∀ b o, b < s.heap.objs.size → s.heap.get? b = some o → h'.get? b = some o
theorem keysAt : ∀ {ks : List Key} {us : List Value}, Vals (ks.map kV) us → ∀ (i : Nat) (v : Value), us[i]? = some v → ∃ k : Key, ks[i]? = some k ∧ RelV (kV k) v
  | [], _, r, i, v, e => by
    cases r
    simp at e
  | k :: ks, _, r, 0, v, e => by
    cases r with
    | cons h t =>
      simp at e
      subst e
      exact ⟨k, rfl, h⟩
  | k :: ks, _, r, i + 1, v, e => by
    cases r with
    | cons h t => exact keysAt t i v (by simpa using e)
theorem keysLen : ∀ {ks : List Key} {us : List Value}, Vals (ks.map kV) us → ks.length = us.length
  | [], _, r => by cases r; rfl
  | k :: ks, _, r => by
    cases r with
    | cons h t => simp [keysLen t]
abbrev freshSet (led : Bool) : Obj := { cls := .type "set", dict := none, data := .set #[] 0 (.fresh 0 0 led) }
theorem init_set {l : Addr} {items : Array Value} {ks : List Key} (led : Bool) (calm : A.handled = none) (hl : s.heap.IsList l items)
    (hi : Vals (ks.map kV) items.toList) (hb : ks.length + 1 < scanBound) :
    codeAny (model prog w) A (.call (.builtin "set.__init__") ⟨[.ref s.heap.objs.size, .ref l], []⟩)
      (wants (fun r s2 => r = .none ∧ ∃ h' tk, s2 = { s with heap := h', toks := tk } ∧ SetMade prog w s ks h') E)
      { s with heap := s.heap.push (freshSet led) } := by
  have len : ks.length = items.size := by simpa using keysLen hi
  have atS : (s.heap.push (freshSet led)).get? s.heap.objs.size = some (freshSet led) := Heap.get?_push_size _ rfl
  have tyS : Shared.TypeIs { s with heap := s.heap.push (freshSet led) } (.ref s.heap.objs.size) "set" := ⟨_, atS, rfl⟩
  obtain ⟨ol, hol, hc, nl, hd⟩ := hl
  have ltL : l < s.heap.objs.size := Heap.lt_size hol
  obtain ⟨ocls, odict, odata, oslots⟩ := ol
  simp only at hc hd
  subst hc hd
  have atL : (s.heap.push (freshSet led)).get? l = some { cls := .type "list", dict := odict, data := .seq items nl, slots := oslots } := Heap.get?_push_of_some _ hol
  have isL : (s.heap.push (freshSet led)).IsList l items := ⟨_, atL, rfl, nl, rfl⟩
  refine codeAny_call_builtin PySem.F.called_set.init.plain PySem.F.entry_set_init (check_set_init_1 tyS ?_)
  have f1 := PySem.F.sub_list_set
  have f2 := PySem.F.sub_list_frozenset
  have f3 : (Value.type "list" == Value.type "dict") = false := by decide
  unfold Builtin.«set.__init__» noKeywords Builtin.Frozenset.updateFrom
  generalize walk : pyIter = it
  wp_walk
  subst walk
  refine wpAny_pyIter_list isL (wpAny_bind (wpAny_runValue ?_))
  have hh : A.in1.in1.handled = none := by simp [calm]
  have sz : (s.heap.push (freshSet led)).objs.size = s.heap.objs.size + 1 := Heap.size_push _ _
  have n1 : l ≠ (s.heap.push (freshSet led)).objs.size := by
    rw [sz]
    exact Nat.ne_of_lt (Nat.lt_succ_of_lt ltL)
  have n2 : s.heap.objs.size ∉ [(s.heap.push (freshSet led)).objs.size, l] := by
    rw [sz]
    simp only [List.mem_cons, List.not_mem_nil, or_false, not_or]
    exact ⟨Nat.ne_of_lt (Nat.lt_succ_self _), Nat.ne_of_gt ltL⟩
  refine updates (ks := ks) ((Walks.list hh _ l n1 items).toS) s.heap.objs.size n2 (fun i v hv => keysAt hi i v (by rw [Array.getElem?_toList]; exact hv))
    (by rw [← len]; exact hb) (items.size - 0) 0 _ (by omega) (Nat.zero_le _) ?start ⟨0, Nat.le_refl _, ?_⟩ fun s' hm up => ?_
  case start => exact ⟨⟨_, Heap.get?_push_size _ rfl, rfl, rfl⟩, isL.push _⟩
  · have at2 : ((s.heap.push (freshSet led)).push { cls := .type "list_iterator", data := .fields #[.ref l, .int 0 0] }).get? s.heap.objs.size = some (freshSet led) := Heap.get?_push_of_some _ atS
    exact ⟨_, #[], 0, _, at2, ⟨rfl, rfl, rfl⟩, rfl, fun e z => by simp at z, fun k => by simp [memK], by decide, rfl, rfl⟩
  · obtain ⟨h', g', d', tk', os'⟩ := s'
    obtain rfl : g' = s.gens := hm.gens
    obtain rfl : d' = s.drawn := hm.drawn
    obtain rfl : os' = s.os := hm.os
    refine wpAny_pure (wpAny_pure ⟨rfl, h', tk', rfl, by rw [len]; exact up, fun b o hb e => ?_⟩)
    refine hm.heap b o ?_ (Heap.get?_push_of_some _ (Heap.get?_push_of_some _ e))
    rw [sz]
    simp only [List.mem_cons, List.not_mem_nil, or_false, not_or]
    exact ⟨Nat.ne_of_lt hb, Nat.ne_of_lt (Nat.lt_succ_of_lt hb)⟩
theorem made_set {l : Addr} {items : Array Value} {ks : List Key} {Q : Value → Shared → Prop} (calm : A.handled = none) (hl : s.heap.IsList l items)
    (hi : Vals (ks.map kV) items.toList) (hb : ks.length + 1 < scanBound)
    (fin : ∀ (h' : Heap) (tk : Nat), SetMade prog w s ks h' → Q (.ref s.heap.objs.size) { s with heap := h', toks := tk }) :
    wpAny (model prog w) A (call (.type "set") [.ref l]) Q E s := by
  obtain ⟨c, tl, mro⟩ := PySem.F.called_set.mro
  have q1 := PySem.F.called_set.made
  have q2 := PySem.F.called_set.sub
  have q3 := PySem.F.called_set.notType
  have q4 := PySem.F.called_set.canCreate
  have q5 := PySem.F.typeCall_set_1 (.ref l)
  refine wpAny_call (codeAny_of_tree ?_)
  show wpAny _ _ (callAny (.type "set") _) _ _ _
  refine wpAny_pure ⟨Code.quiet_builtin _ (by decide +kernel), codeAny_builtin PySem.F.entry_type_call ?_⟩
  rw [Around.under_plain (weight_type_call_type "set" [.ref l] []) rfl]
  repeat (any_goals (first | assumption | wp_step))
  refine codeAny_mono (code_set_new_1 (.ref l) (E := E) (Q₁ := fun obj t => ∃ led : Bool, obj = .ref s.heap.objs.size ∧ t = { s with heap := s.heap.push (freshSet led) }) fun led => ⟨led, rfl, rfl⟩) fun r t hr => ?_
  cases r with
  | error e => exact hr
  | ok fl =>
    cases fl with
    | ret obj =>
      obtain ⟨led, rfl, rfl⟩ := hr
      have tyS : Shared.TypeIs { s with heap := s.heap.push (freshSet led) } (.ref s.heap.objs.size) "set" := ⟨_, Heap.get?_push_size _ rfl, rfl⟩
      have q6 := PySem.F.called_set.init.lookup
      have q7 := PySem.F.called_set.init.bind (.ref s.heap.objs.size)
      repeat (any_goals (first | assumption | wp_step))
      refine codeAny_mono (init_set (E := E) led (by simp [calm]) hl hi hb) fun r2 s2 hr2 => ?_
      cases r2 with
      | error e => exact hr2
      | ok fl2 =>
        cases fl2 with
        | ret r =>
          obtain ⟨rfl, h', tk, rfl, made⟩ := hr2
          repeat (any_goals (first | assumption | wp_step))
          exact fin _ _ made
        | next => exact hr2.elim
        | brk => exact hr2.elim
        | cont => exact hr2.elim
    | next => exact hr.elim
    | brk => exact hr.elim
    | cont => exact hr.elim
/-- set(xs): a new set of the items of a list of ints and texts -/
def rSetL (K : PySem.W.Frag) (P : Program) (w : World) : List V → Hp → VK → Prop := fun xs H Q => ∃ (l : Addr) (ks : List Key), xs = [V.ref l] ∧ SqL K H l (ks.map kV) ∧ ks.length ≤ 4000 ∧
  ∀ p m, m ≤ ks.length → H p = none → Q (.ref p) (upd H p (SetK P w p (memK ks) m))
theorem cr_setL {X : Cx} (hc : X.calm = true) : CallR X (.type "set") (rSetL X.K X.prog X.w) := by
  intro pins s σ H xs us Q I r h
  obtain ⟨l, ks, rfl, hl, few, q⟩ := h
  rw [Vals.ref1 r]
  obtain ⟨its, rv, pl, _⟩ := I.list hl
  refine made_set (ks := ks) (I.ok.hd hc) pl.isList (by simpa using rv) (by unfold scanBound; omega) fun h' tk made => ?_
  obtain ⟨⟨m, hm, up⟩, keep⟩ := made
  rw [List.take_length] at up
  exact ⟨.ref s.heap.objs.size, upd H s.heap.objs.size (SetK X.prog X.w s.heap.objs.size (memK ks) m), I.laid (t' := tk) (fun b o e => keep b o (Heap.lt_size e) e) (Nat.le_refl _) (setK_new up), rfl, q _ m hm (I.hok.fresh (Nat.le_refl _))⟩
end
end Qs
set_option maxHeartbeats 1000000
namespace Qw
open PySem PySem.Spec PyProof.Rows L2 Evl
open Pw (Dt Rp RpL Wk none_sub get_set set_same set_ne R2d R1d RLd RLn Kq KqL)
inductive Ow where
  | lst (ds : List Dt) | dic (ks : List Key) (ds : List Dt) | dit (ks : List (List Key)) (ds : List Dt)
  | set (S : Key → Bool) (n : Nat) | ins (C : Addr) (fs : List Str) (ds : List Dt)
def OwOk (P : Program) (w : World) (K : PySem.W.Frag) (F : Hp) (a : Addr) : Ow → HO → Prop
  | .lst ds, o => ∃ vs, o = .lst vs ∧ RpL K F ds vs
  | .dic ks ds, o => ∃ vs, o = .dK (ks.zip vs) ∧ ks.length = vs.length ∧ RpL K F ds vs
  | .dit ks ds, o => ∃ vs, o = .dT (ks.zip vs) ∧ ks.length = vs.length ∧ RpL K F ds vs
  | .set S n, o => ∃ m, m ≤ n ∧ o = SetK P w a S m
  | .ins C fs ds, o => ∃ dx vs, o = .ins C dx (fs.zip vs) ∧ fs.length = vs.length ∧ RpL K F ds vs
/-- an exception of a class of the text -/
structure Xn where
  C : Addr
  fs : List Str
  ds : List Dt
def XnOk (K : PySem.W.Frag) (F : Hp) (x : Xn) (od : Option Addr) : Prop := (x.fs = [] ∧ od = none) ∨ ∃ dx vs, x.fs ≠ [] ∧ od = some dx ∧ x.fs.length = vs.length ∧ RpL K F x.ds vs ∧ F dx = some (.xd (x.fs.zip vs))
theorem XnOk.mono {K : PySem.W.Frag} {F F' : Hp} {x : Xn} {od : Option Addr} (e : Ex F F') (h : XnOk K F x od) : XnOk K F' x od := by
  rcases h with h | ⟨dx, vs, h0, h1, h2, h3, h4⟩
  · exact .inl h
  · exact .inr ⟨dx, vs, h0, h1, h2, h3.mono e, e _ _ h4⟩
/-- what is known of a value while a dict is walked: nothing; a dict that may be locked; the locked one -/
inductive LkI where
  | n | r (kvs : List (Key × Dt)) | l (kvs : List (Key × Dt))
def LkOk (K : PySem.W.Frag) (F : Hp) (v : V) : LkI → Prop
  | .n => True
  | .r kvs => ∃ a q, v = .ref a ∧ Rd F a (.dK q) ∧ q.map Prod.fst = kvs.map Prod.fst ∧ RpL K F (kvs.map Prod.snd) (q.map Prod.snd)
  | .l kvs => ∃ a o q, v = .ref a ∧ F a = some (.frz o (.dK q)) ∧ q.map Prod.fst = kvs.map Prod.fst ∧ RpL K F (kvs.map Prod.snd) (q.map Prod.snd)
theorem LkOk.mono {K : PySem.W.Frag} {F F' : Hp} {v : V} {x : LkI} (e : Ex F F') (h : LkOk K F v x) : LkOk K F' v x := by
  cases x with
  | n => trivial
  | r kvs =>
    obtain ⟨a, q, h1, h2, h3, h4⟩ := h
    exact ⟨a, q, h1, h2.elim (fun z => .inl (e _ _ z)) (fun ⟨o, z⟩ => .inr ⟨o, e _ _ z⟩), h3, h4.mono e⟩
  | l kvs =>
    obtain ⟨a, o, q, h1, h2, h3, h4⟩ := h
    exact ⟨a, o, q, h1, e _ _ h2, h3, h4.mono e⟩
inductive Sl where
  | x | u | d (d : Dt) | ow (t : Option Addr) (w : Ow) | ex (a : Addr) (od : Option Addr) (e : Xn) | lk (v : V) (x : LkI)
abbrev Sl.ol (ds : List Dt) : Sl := .ow none (.lst ds)
abbrev En := List Sl
section
variable (P : Program) (w : World) (K : PySem.W.Frag)
def SlOk (F H0 H : Hp) (v : Option V) : Sl → Prop
  | .x => True
  | .u => v = none
  | .d d => ∃ y, v = some y ∧ Rp K F d y
  | .ow t u => ∃ p o, v = some (.ref p) ∧ (∀ q, t = some q → p = q) ∧ F p = none ∧ H0 p = none ∧ H p = some o ∧ OwOk P w K F p u o
  | .ex a od e => v = some (.ref a) ∧ XnOk K F e od
  | .lk y x => v = some y ∧ LkOk K F y x
structure Sm (F0 H0 F H : Hp) (σ : L2.St) (env : En) : Prop where
  e0 : Ex F0 H0
  g : Wk F0 H0 F H
  len : σ.length = env.length
  sl : ∀ (i : Nat) (s : Sl), env[i]? = some s → ∃ v, σ[i]? = some v ∧ SlOk P w K F H0 H v s
  df : ∀ (i j : Nat) (t t' : Option Addr) (u u' : Ow) (p : Addr), i ≠ j → env[i]? = some (.ow t u) → env[j]? = some (.ow t' u') → σ[i]? = some (some (.ref p)) → σ[j]? ≠ some (some (.ref p))
end
/-- the addresses of the things of one's own -/
def Own (σ : L2.St) (env : En) (a : Addr) : Prop := ∃ (i : Nat) (t : Option Addr) (u : Ow), env[i]? = some (.ow t u) ∧ σ[i]? = some (some (.ref a))
/-- how the heaps go on while an expression is worked out -/
structure Wo (σ : L2.St) (env : En) (F H F' H' : Hp) : Prop where
  f : Ex F F'
  h : ∀ a o, H a = some o → ¬ Own σ env a → H' a = some o
  s : Ex F' H'
  n : ∀ a o, H a = some o → F a = none → F' a = none
  b : ∀ a, H' a = none → H a = none
/-- the same slots are one's own -/
def Sh (e e' : En) : Prop := e.length = e'.length ∧ ∀ (i : Nat) (s : Sl), e[i]? = some s → e'[i]? = some s ∨ ∃ (t : Option Addr) (u u' : Ow), s = .ow t u ∧ e'[i]? = some (.ow t u')
section
variable {P : Program} {w : World} {K : PySem.W.Frag} {F0 H0 F H F1 H1 F2 H2 F' H' : Hp} {σ : L2.St} {env env1 env2 : En}
theorem Sh.refl : Sh env env := ⟨rfl, fun _ _ h => .inl h⟩
theorem Sh.trans (a : Sh env env1) (b : Sh env1 env2) : Sh env env2 := ⟨a.1.trans b.1, fun i s h => by
  rcases a.2 i s h with h1 | ⟨t, u, u', rfl, h1⟩
  · exact b.2 i s h1
  · rcases b.2 i _ h1 with h2 | ⟨t2, v, v', e, h2⟩
    · exact .inr ⟨t, u, u', rfl, h2⟩
    · cases e
      exact .inr ⟨t, u, v', rfl, h2⟩⟩
theorem Sh.set {i : Nat} {t : Option Addr} {u u' : Ow} (h : env[i]? = some (.ow t u)) : Sh env (env.set i (.ow t u')) := ⟨by simp, fun j s e => by
  by_cases z : i = j
  · subst z
    rw [h] at e
    cases e
    exact .inr ⟨t, u, u', rfl, set_same (List.getElem?_eq_some_iff.mp h).1⟩
  · exact .inl (by rw [set_ne z]; exact e)⟩
theorem Sh.own (a : Sh env env1) {p : Addr} (h : Own σ env1 p) : Own σ env p := by
  obtain ⟨i, t, u, h1, h2⟩ := h
  have hi : i < env.length := by
    rw [a.1]
    exact (List.getElem?_eq_some_iff.mp h1).1
  rcases a.2 i env[i] (List.getElem?_eq_getElem hi) with h | ⟨t', v, v', e, h⟩
  · rw [h1] at h
    refine ⟨i, t, u, ?_, h2⟩
    rw [List.getElem?_eq_getElem hi, ← Option.some.inj h]
  · refine ⟨i, t', v, ?_, h2⟩
    rw [List.getElem?_eq_getElem hi, e]
theorem Wo.refl (s : Ex F H) : Wo σ env F H F H := ⟨Ex.refl F, fun _ _ h _ => h, s, fun _ _ _ h => h, fun _ h => h⟩
theorem Wo.of (k : Wk F H F' H') : Wo σ env F H F' H' := ⟨k.f, fun a o h _ => k.h a o h, k.s, k.n, fun a h => none_sub k.h h⟩
theorem Wo.trans (sh : Sh env env1) (a : Wo σ env F H F1 H1) (b : Wo σ env1 F1 H1 F2 H2) : Wo σ env F H F2 H2 :=
  ⟨a.f.trans b.f, fun p o h n => b.h p o (a.h p o h n) fun z => n (sh.own z), b.s, fun p o h n => (by
    cases e : H1 p with
    | some o' => exact b.n p o' e (a.n p o h n)
    | none =>
      rw [a.b p e] at h
      cases h), fun p h => a.b p (b.b p h)⟩
theorem OwOk.mono {a : Addr} {u : Ow} {o : HO} (e : Ex F F') (h : OwOk P w K F a u o) : OwOk P w K F' a u o := by
  cases u with
  | lst ds => obtain ⟨vs, h1, h2⟩ := h; exact ⟨vs, h1, h2.mono e⟩
  | dic ks ds => obtain ⟨vs, h1, h3, h2⟩ := h; exact ⟨vs, h1, h3, h2.mono e⟩
  | dit ks ds => obtain ⟨vs, h1, h3, h2⟩ := h; exact ⟨vs, h1, h3, h2.mono e⟩
  | set S n => exact h
  | ins C fs ds => obtain ⟨dx, vs, h1, h3, h2⟩ := h; exact ⟨dx, vs, h1, h3, h2.mono e⟩
theorem SlOk.wk {v : Option V} {s : Sl} (k : Wk F H F' H') (h : SlOk P w K F H0 H v s) : SlOk P w K F' H0 H' v s := by
  cases s with
  | x => trivial
  | u => exact h
  | d d => obtain ⟨y, e, r⟩ := h; exact ⟨y, e, r.mono k.f⟩
  | ex a od e => exact ⟨h.1, h.2.mono k.f⟩
  | lk y x => exact ⟨h.1, h.2.mono k.f⟩
  | ow t u =>
    obtain ⟨p, o, e, h0, h1, h2, h3, h4⟩ := h
    exact ⟨p, o, e, h0, k.n p _ h3 h1, h2, k.h p _ h3, h4.mono k.f⟩
theorem Sm.wk (S : Sm P w K F0 H0 F H σ env) (k : Wk F H F' H') : Sm P w K F0 H0 F' H' σ env :=
  ⟨S.e0, S.g.trans k, S.len, fun i s e => by
    obtain ⟨v, h1, h2⟩ := S.sl i s e
    exact ⟨v, h1, h2.wk k⟩, S.df⟩
theorem Sm.sub (S : Sm P w K F0 H0 F H σ env) : Ex F H := S.g.s
/-- an own thing's place -/
theorem Sm.own (S : Sm P w K F0 H0 F H σ env) {i : Nat} {t : Option Addr} {u : Ow} (h : env[i]? = some (.ow t u)) :
    ∃ p o, σ[i]? = some (some (.ref p)) ∧ (∀ q, t = some q → p = q) ∧ F p = none ∧ H0 p = none ∧ H p = some o ∧ OwOk P w K F p u o := by
  obtain ⟨v, h1, p, o, rfl, r⟩ := S.sl i _ h
  exact ⟨p, o, h1, r⟩
theorem Sm.ownNew (S : Sm P w K F0 H0 F H σ env) {p : Addr} (h : H p = none) : ¬ Own σ env p := fun ⟨i, t, u, e, z⟩ => by
  obtain ⟨q, o, h1, _, _, _, h3, _⟩ := S.own e
  rw [h1] at z
  cases z
  rw [h] at h3
  cases h3
/-- an object that is nobody's slot is made or changed -/
theorem Sm.upd (S : Sm P w K F0 H0 F H σ env) {p : Addr} (o : HO) (hF : F p = none) (h0 : H0 p = none) (hp : ¬ Own σ env p) : Sm P w K F0 H0 F (L2.upd H p o) σ env :=
  ⟨S.e0, ⟨S.g.f, fun a u q => by
    rw [upd_ne (ne_of_none q h0)]
    exact S.g.h a u q, fun a u q => by
    rw [upd_ne (ne_of_none q hF)]
    exact S.g.s a u q, S.g.n⟩, S.len, fun i s e => by
    obtain ⟨v, h1, h2⟩ := S.sl i s e
    refine ⟨v, h1, ?_⟩
    cases s with
    | x => trivial
    | u => exact h2
    | d d => exact h2
    | ex a od e => exact h2
    | lk y x => exact h2
    | ow t u =>
      obtain ⟨q, z, ev, g0, g1, g2, g3, g4⟩ := h2
      have ne : q ≠ p := fun z => hp ⟨i, t, u, e, by rw [h1, ev, z]⟩
      exact ⟨q, z, ev, g0, g1, g2, by rw [upd_ne ne]; exact g3, g4⟩, S.df⟩
/-- an own thing is changed -/
theorem Sm.mut (S : Sm P w K F0 H0 F H σ env) {i : Nat} {t : Option Addr} {u u' : Ow} {p : Addr} {o : HO} (hi : env[i]? = some (.ow t u)) (hp : σ[i]? = some (some (.ref p))) (r : OwOk P w K F p u' o) :
    Sm P w K F0 H0 F (L2.upd H p o) σ (env.set i (.ow t u')) := by
  obtain ⟨q, z, h1, g0, g1, g2, g3, g4⟩ := S.own hi
  rw [hp] at h1
  cases h1
  refine ⟨S.e0, ⟨S.g.f, fun a u z => ?_, fun a u z => ?_, S.g.n⟩, by simp [S.len], fun j s e => ?_, fun a b t1 t2 u1 u2 q ne e1 e2 h => ?_⟩
  · rw [upd_ne (ne_of_none z g2)]
    exact S.g.h a u z
  · rw [upd_ne (ne_of_none z g1)]
    exact S.g.s a u z
  · rcases get_set e with ⟨rfl, rfl, l⟩ | ⟨ne, e⟩
    · exact ⟨_, hp, p, o, rfl, g0, g1, g2, upd_same, r⟩
    · obtain ⟨v, k1, k2⟩ := S.sl j s e
      refine ⟨v, k1, ?_⟩
      cases s with
      | x => trivial
      | u => exact k2
      | d d => exact k2
      | ex a od e => exact k2
      | lk y x => exact k2
      | ow t2 u2 =>
        obtain ⟨q, z, eq, f0, f1, f2, f3, f4⟩ := k2
        have nq : q ≠ p := fun z => S.df i j t t2 u u2 p ne hi e hp (by rw [k1, eq, z])
        exact ⟨q, z, eq, f0, f1, f2, by rw [upd_ne nq]; exact f3, f4⟩
  · rcases get_set e1 with ⟨ra, z1, _⟩ | ⟨n1, e1⟩
    · rcases get_set e2 with ⟨rb, z2, _⟩ | ⟨n2, e2⟩
      · exact absurd (ra.symm.trans rb) ne
      · subst ra
        exact S.df i b t t2 u u2 q ne hi e2 h
    · rcases get_set e2 with ⟨rb, z2, _⟩ | ⟨n2, e2⟩
      · subst rb
        exact S.df a i t1 t u1 u q ne e1 hi h
      · exact S.df a b t1 t2 u1 u2 q ne e1 e2 h
theorem Wo.mut (S : Sm P w K F0 H0 F H σ env) {i : Nat} {t : Option Addr} {u : Ow} {p : Addr} {o : HO} (hi : env[i]? = some (.ow t u)) (hp : σ[i]? = some (some (.ref p))) : Wo σ env F H F (L2.upd H p o) := by
  obtain ⟨q, z, h1, g0, g1, g2, g3, g4⟩ := S.own hi
  rw [hp] at h1
  cases h1
  refine ⟨Ex.refl F, fun a v h n => ?_, fun a v h => ?_, fun _ _ _ h => h, fun a h => ?_⟩
  · have ne : a ≠ p := fun z => n ⟨i, t, u, hi, by rw [hp, z]⟩
    rw [upd_ne ne]
    exact h
  · rw [upd_ne (ne_of_none h g1)]
    exact S.sub a v h
  · by_cases z : a = p
    · subst z
      rw [upd_same] at h
      cases h
    · rw [upd_ne z] at h
      exact h
/-- slot i gets data -/
theorem Sm.setD (S : Sm P w K F0 H0 F H σ env) {i : Nat} {d : Dt} {v : V} (r : Rp K F d v) : Sm P w K F0 H0 F H (σ.set i (some v)) (env.set i (.d d)) :=
  ⟨S.e0, S.g, by simp [S.len], fun j s e => by
    rcases get_set e with ⟨rfl, rfl, l⟩ | ⟨ne, e⟩
    · exact ⟨some v, set_same (by rw [S.len]; exact l), v, rfl, r⟩
    · rw [set_ne ne]
      exact S.sl j s e, fun a b t1 t2 u1 u2 p ne e1 e2 h => by
    rcases get_set e1 with ⟨_, z, _⟩ | ⟨n1, e1⟩
    · cases z
    · rcases get_set e2 with ⟨_, z, _⟩ | ⟨n2, e2⟩
      · cases z
      · rw [set_ne n1] at h
        rw [set_ne n2]
        exact S.df a b t1 t2 u1 u2 p ne e1 e2 h⟩
theorem Sm.setU (S : Sm P w K F0 H0 F H σ env) (i : Nat) : Sm P w K F0 H0 F H (σ.set i none) (env.set i .u) :=
  ⟨S.e0, S.g, by simp [S.len], fun j s e => by
    rcases get_set e with ⟨rfl, rfl, l⟩ | ⟨ne, e⟩
    · exact ⟨none, set_same (by rw [S.len]; exact l), rfl⟩
    · rw [set_ne ne]
      exact S.sl j s e, fun a b t1 t2 u1 u2 p ne e1 e2 h => by
    rcases get_set e1 with ⟨_, z, _⟩ | ⟨n1, e1⟩
    · cases z
    · rcases get_set e2 with ⟨_, z, _⟩ | ⟨n2, e2⟩
      · cases z
      · rw [set_ne n1] at h
        rw [set_ne n2]
        exact S.df a b t1 t2 u1 u2 p ne e1 e2 h⟩
/-- slot i gets a new thing of its own -/
theorem Sm.setO (S : Sm P w K F0 H0 F H σ env) {i : Nat} {u : Ow} {p : Addr} {o : HO} (hF : F p = none) (h0 : H0 p = none) (hp : H p = some o) (r : OwOk P w K F p u o) (hn : ¬ Own σ env p) :
    Sm P w K F0 H0 F H (σ.set i (some (.ref p))) (env.set i (.ow none u)) :=
  ⟨S.e0, S.g, by simp [S.len], fun j s e => by
    rcases get_set e with ⟨rfl, rfl, l⟩ | ⟨ne, e⟩
    · exact ⟨some (.ref p), set_same (by rw [S.len]; exact l), p, o, rfl, (fun _ z => nomatch z), hF, h0, hp, r⟩
    · rw [set_ne ne]
      exact S.sl j s e, fun a b t1 t2 u1 u2 q ne e1 e2 h => by
    rcases get_set e1 with ⟨ra, z1, _⟩ | ⟨n1, e1⟩
    · rcases get_set e2 with ⟨rb, z2, _⟩ | ⟨n2, e2⟩
      · exact absurd (ra.symm.trans rb) ne
      · subst ra
        rw [set_ne n2]
        have l : i < σ.length := by
          rw [S.len]
          exact (by assumption)
        rw [set_same l] at h
        cases h
        exact fun z => hn ⟨b, t2, u2, e2, z⟩
    · rcases get_set e2 with ⟨rb, z2, l⟩ | ⟨n2, e2⟩
      · subst rb
        rw [set_ne n1] at h
        intro q2
        rw [set_same (by rw [S.len]; exact l)] at q2
        cases q2
        exact hn ⟨a, t1, u1, e1, h⟩
      · rw [set_ne n1] at h
        rw [set_ne n2]
        exact S.df a b t1 t2 u1 u2 q ne e1 e2 h⟩
/-- what an own thing is as data -/
def Ow.dt : Ow → Option Dt
  | .lst ds => some (.lst ds)
  | .dic ks ds => some (.dic ks ds)
  | .dit ks ds => some (.dit ks ds)
  | .ins C fs ds => some (.obj C fs ds)
  | .set _ _ => none
theorem OwOk.rp {a : Addr} {u : Ow} {o : HO} {d : Dt} (h : OwOk P w K F a u o) (e : u.dt = some d) (hF : F a = some o) : Rp K F d (.ref a) := by
  cases u <;> cases e
  · obtain ⟨vs, rfl, r⟩ := h
    exact ⟨a, vs, rfl, SqL.of hF, r⟩
  · obtain ⟨vs, rfl, l, r⟩ := h
    exact ⟨a, vs, rfl, hF, l, r⟩
  · obtain ⟨vs, rfl, l, r⟩ := h
    exact ⟨a, vs, rfl, hF, l, r⟩
  · obtain ⟨dx, vs, rfl, l, r⟩ := h
    exact ⟨a, dx, vs, rfl, hF, l, r⟩
/-- the own thing in slot i becomes data -/
theorem Sm.freeze (S : Sm P w K F0 H0 F H σ env) {i : Nat} {t : Option Addr} {u : Ow} {d : Dt} (h : env[i]? = some (.ow t u)) (hd : u.dt = some d) :
    ∃ p o, σ[i]? = some (some (.ref p)) ∧ F p = none ∧ H p = some o ∧ OwOk P w K F p u o ∧ Rp K (L2.upd F p o) d (.ref p) ∧ Sm P w K F0 H0 (L2.upd F p o) H σ (env.set i (.d d)) := by
  obtain ⟨p, o, h1, g0, g1, g2, g3, g4⟩ := S.own h
  have ex : Ex F (L2.upd F p o) := Ex.new g1
  have rp : Rp K (L2.upd F p o) d (.ref p) := (g4.mono ex).rp hd upd_same
  refine ⟨p, o, h1, g1, g3, g4, rp, S.e0, S.g.give S.e0 g2 g3, by simp [S.len], fun j s e => ?_, fun a b t1 t2 u1 u2 q ne e1 e2 h => ?_⟩
  · rcases get_set e with ⟨rfl, rfl, l⟩ | ⟨ne, e⟩
    · exact ⟨_, h1, .ref p, rfl, rp⟩
    · obtain ⟨v, k1, k2⟩ := S.sl j s e
      refine ⟨v, k1, ?_⟩
      cases s with
      | x => trivial
      | u => exact k2
      | d d =>
        obtain ⟨y, e, r⟩ := k2
        exact ⟨y, e, r.mono ex⟩
      | ex a od e => exact ⟨k2.1, k2.2.mono ex⟩
      | lk y x => exact ⟨k2.1, k2.2.mono ex⟩
      | ow t2 u2 =>
        obtain ⟨q, z, eq, f0, f1, f2, f3, f4⟩ := k2
        have nq : q ≠ p := fun z => S.df i j t t2 u u2 p ne h e h1 (by rw [k1, eq, z])
        exact ⟨q, z, eq, f0, by rw [upd_ne nq]; exact f1, f2, f3, f4.mono ex⟩
  · rcases get_set e1 with ⟨_, z, _⟩ | ⟨n1, e1⟩
    · cases z
    · rcases get_set e2 with ⟨_, z, _⟩ | ⟨n2, e2⟩
      · cases z
      · exact S.df a b t1 t2 u1 u2 q ne e1 e2 h
/-- forgetting -/
def Le (a b : En) : Prop := a.length = b.length ∧ ∀ (i : Nat) (s : Sl), b[i]? = some s → s = .x ∨ a[i]? = some s
theorem Le.refl (a : En) : Le a a := ⟨rfl, fun _ _ h => .inr h⟩
theorem Le.nil : Le [] [] := Le.refl _
theorem Le.x {a b : En} {s : Sl} (h : Le a b) : Le (s :: a) (.x :: b) := ⟨by simp [h.1], fun i t e => by
  cases i with
  | zero => exact .inl (by simpa using e.symm)
  | succ i => exact h.2 i t (by simpa using e)⟩
theorem Le.s {a b : En} {s : Sl} (h : Le a b) : Le (s :: a) (s :: b) := ⟨by simp [h.1], fun i t e => by
  cases i with
  | zero => exact .inr (by simpa using e)
  | succ i => exact h.2 i t (by simpa using e)⟩
theorem Sm.le (S : Sm P w K F0 H0 F H σ env) (l : Le env env1) : Sm P w K F0 H0 F H σ env1 :=
  ⟨S.e0, S.g, S.len.trans l.1, fun i s e => by
    rcases l.2 i s e with rfl | z
    · have hi : i < σ.length := by
        rw [S.len, l.1]
        exact (List.getElem?_eq_some_iff.mp e).1
      exact ⟨σ[i], by simp [hi], trivial⟩
    · exact S.sl i s z, fun a b t1 t2 u1 u2 p ne e1 e2 h => by
    rcases l.2 a _ e1 with z | e1
    · cases z
    · rcases l.2 b _ e2 with z | e2
      · cases z
      · exact S.df a b t1 t2 u1 u2 p ne e1 e2 h⟩
end
end Qw
set_option maxHeartbeats 1000000
namespace Qw
open PySem PySem.Spec PyProof.Rows L2 Evl
open Pw (Dt Rp RpL Wk none_sub get_set set_same set_ne R2d R1d RLd RLn Kq KqL truD isEmpty_rp flatD fl py pyL)
section
variable (P : Program) (w : World) (K : PySem.W.Frag)
/-- te gives d, and leaves the slots as env' says -/
def Ee (te : TE) (env : En) (d : Dt) (env' : En) : Prop := Sh env env' ∧ ∀ F0 H0 F H σ, Sm P w K F0 H0 F H σ env → ∀ Q : VK, (∀ v F' H', Wo σ env F H F' H' → Sm P w K F0 H0 F' H' σ env' → Rp K F' d v → Q v H') → te σ H Q
def Te (tt : TT) (env : En) (b : Bool) (env' : En) : Prop := Sh env env' ∧ ∀ F0 H0 F H σ, Sm P w K F0 H0 F H σ env → ∀ Q : Bool → Hp → Prop, (∀ F' H', Wo σ env F H F' H' → Sm P w K F0 H0 F' H' σ env' → Q b H') → tt σ H Q
def EeA (ta : TA) (env : En) (ds : List Dt) (env' : En) : Prop := Sh env env' ∧ ∀ F0 H0 F H σ, Sm P w K F0 H0 F H σ env → ∀ Q : List V → Hp → Prop, (∀ vs F' H', Wo σ env F H F' H' → Sm P w K F0 H0 F' H' σ env' → RpL K F' ds vs → Q vs H') → ta σ H Q
/-- a new thing of one's own -/
def EnO (te : TE) (env : En) (u : Ow) (env' : En) : Prop := Sh env env' ∧ ∀ F0 H0 F H σ, Sm P w K F0 H0 F H σ env → ∀ Q : VK, (∀ p o F' H', Wo σ env F H F' H' → Sm P w K F0 H0 F' H' σ env' → H p = none → F' p = none → H' p = some o → OwOk P w K F' p u o → Q (.ref p) H') → te σ H Q
abbrev EnL (te : TE) (env : En) (ds : List Dt) (env' : En) : Prop := EnO P w K te env (.lst ds) env'
end
section
variable {P : Program} {w : World} {K : PySem.W.Frag} {env env1 env2 env3 env4 : En} {ta tb te tc : TE} {t u : TT} {d e z : Dt} {r r' : R2}
theorem Ee.nw (h : ∀ F0 H0 F H σ, Sm P w K F0 H0 F H σ env → ∀ Q : VK, Kq K F H d Q → te σ H Q) : Ee P w K te env d env := ⟨Sh.refl, fun F0 H0 F H σ S Q q => h F0 H0 F H σ S Q fun v F' H' k r => q v F' H' (.of k) (S.wk k) r⟩
theorem te_is {b c : Bool} (h : Te P w K t env b env1) (e' : b = c) : Te P w K t env c env1 := e' ▸ h
theorem ee_op (ha : Ee P w K ta env d env1) (hb : Ee P w K tb env1 e env2) (hr : R2d K r d e z) : Ee P w K (tOp r ta tb) env z env2 := ⟨ha.1.trans hb.1, fun F0 H0 F H σ S Q q =>
  ha.2 F0 H0 F H σ S _ fun x F1 H1 w1 S1 r1 => hb.2 F0 H0 F1 H1 σ S1 _ fun y F2 H2 w2 S2 r2 => hr F2 H2 x y S2.sub (r1.mono w2.f) r2 Q fun v F3 H3 w3 r3 => q v F3 H3 (w1.trans ha.1 (w2.trans hb.1 (.of w3))) (S2.wk w3) r3⟩
theorem ea_cons {tr : TA} {ds : List Dt} (h : Ee P w K te env d env1) (hr : EeA P w K tr env1 ds env2) : EeA P w K (tCons te tr) env (d :: ds) env2 := ⟨h.1.trans hr.1, fun F0 H0 F H σ S Q q =>
  h.2 F0 H0 F H σ S _ fun x F1 H1 w1 S1 r1 => hr.2 F0 H0 F1 H1 σ S1 _ fun vs F2 H2 w2 S2 r2 => q (x :: vs) F2 H2 (w1.trans h.1 w2) S2 ⟨x, vs, rfl, r1.mono w2.f, r2⟩⟩
theorem ee_cb {r : List V → Hp → VK → Prop} {ta : TA} {ds : List Dt} (h : EeA P w K ta env ds env1) (hr : RLd K r ds z) : Ee P w K (tCB r ta) env z env1 := ⟨h.1, fun F0 H0 F H σ S Q q =>
  h.2 F0 H0 F H σ S _ fun vs F1 H1 w1 S1 r1 => hr F1 H1 vs S1.sub r1 Q fun v F3 H3 w3 r3 => q v F3 H3 (w1.trans h.1 (.of w3)) (S1.wk w3) r3⟩
/-- a new thing as data -/
theorem Sm.give {F0 H0 F H : Hp} {σ : L2.St} (S : Sm P w K F0 H0 F H σ env) {p : Addr} {o : HO} (n1 : F p = none) (n2 : H0 p = none) (h : H p = some o) (no : ¬ Own σ env p) : Sm P w K F0 H0 (L2.upd F p o) H σ env :=
  ⟨S.e0, S.g.give S.e0 n2 h, S.len, fun i s e => by
    obtain ⟨v, k1, k2⟩ := S.sl i s e
    refine ⟨v, k1, ?_⟩
    cases s with
    | x => trivial
    | u => exact k2
    | d d =>
      obtain ⟨y, e, r⟩ := k2
      exact ⟨y, e, r.mono (Ex.new n1)⟩
    | ex a od e => exact ⟨k2.1, k2.2.mono (Ex.new n1)⟩
    | lk y x => exact ⟨k2.1, k2.2.mono (Ex.new n1)⟩
    | ow t2 u2 =>
      obtain ⟨q, z, eq, f0, f1, f2, f3, f4⟩ := k2
      have nq : q ≠ p := fun z => no ⟨i, t2, u2, e, by rw [k1, eq, z]⟩
      exact ⟨q, z, eq, f0, by rw [upd_ne nq]; exact f1, f2, f3, f4.mono (Ex.new n1)⟩, S.df⟩
theorem Wo.give {F H F' H' : Hp} {σ : L2.St} (k : Wo σ env F H F' H') {p : Addr} {o : HO} (n0 : H p = none) (n1 : F' p = none) (h : H' p = some o) : Wo σ env F H (L2.upd F' p o) H' :=
  ⟨fun a v e => by
    rw [upd_ne (ne_of_none (k.f a v e) n1)]
    exact k.f a v e, k.h, fun a v e => by
    by_cases z : a = p
    · subst z
      rw [upd_same] at e
      rw [h, ← e]
    · rw [upd_ne z] at e
      exact k.s a v e, fun a v e n => by
    rw [upd_ne (ne_of_none e n0)]
    exact k.n a v e n, k.b⟩
theorem eo_dt {o : Ow} (h : EnO P w K te env o env1) (hd : o.dt = some d := by rfl) : Ee P w K te env d env1 := ⟨h.1, fun F0 H0 F H σ S Q q =>
  h.2 F0 H0 F H σ S Q fun p ho F1 H1 k S1 n1 n2 h1 r1 => q (.ref p) (L2.upd F1 p ho) H1 (k.give n1 n2 h1) (S1.give n2 (none_sub S.g.h n1) h1 fun z => S.ownNew n1 (h.1.own z)) ((r1.mono (Ex.new n2)).rp hd upd_same)⟩
theorem te_test {b : Bool} (h : Ee P w K te env (.bl b) env1) : Te P w K (tTest te) env b env1 := ⟨h.1, fun F0 H0 F H σ S Q q => h.2 F0 H0 F H σ S _ fun v F1 H1 w1 S1 r1 => ⟨b, r1, q F1 H1 w1 S1⟩⟩
theorem te_or {a b : Bool} (h1 : Te P w K t env a env1) (h2 : a = false → Te P w K u env1 b env1) : Te P w K (tOr t u) env (a || b) env1 := ⟨h1.1, fun F0 H0 F H σ S Q q => h1.2 F0 H0 F H σ S _ fun F1 H1 w1 S1 => by
  cases a with
  | false =>
    show u σ H1 Q
    exact (h2 rfl).2 F0 H0 F1 H1 σ S1 Q fun F2 H2 w2 S2 => q F2 H2 (w1.trans h1.1 w2) S2
  | true =>
    show Q true H1
    exact q F1 H1 w1 S1⟩
theorem te_orM {b : Bool} (h1 : Te P w K t env false env1) (h2 : Te P w K u env1 b env2) : Te P w K (tOr t u) env b env2 := ⟨h1.1.trans h2.1, fun F0 H0 F H σ S Q q => h1.2 F0 H0 F H σ S _ fun F1 H1 w1 S1 => by
  show u σ H1 Q
  exact h2.2 F0 H0 F1 H1 σ S1 Q fun F2 H2 w2 S2 => q F2 H2 (w1.trans h1.1 w2) S2⟩
end
end Qw
set_option maxHeartbeats 1000000
namespace Qw
open PySem PySem.Spec PyProof.Rows L2 Evl
open Pw (Dt Rp RpL Wk none_sub get_set set_same set_ne R2d R1d RLd RLn Kq KqL truD isEmpty_rp flatD fl py pyL)
section
variable (P : Program) (w : World) (K : PySem.W.Frag)
def Ep (te : TE) (env : En) (d : Dt) : Prop := ∀ F0 H0 F H σ, Sm P w K F0 H0 F H σ env → ∀ Q : VK, Kq K F H d Q → te σ H Q
def Tp (tt : TT) (env : En) (b : Bool) : Prop := ∀ F0 H0 F H σ, Sm P w K F0 H0 F H σ env → ∀ Q : Bool → Hp → Prop, (∀ F' H', Wk F H F' H' → Q b H') → tt σ H Q
def EpA (ta : TA) (env : En) (ds : List Dt) : Prop := ∀ F0 H0 F H σ, Sm P w K F0 H0 F H σ env → ∀ Q : List V → Hp → Prop, KqL K F H ds Q → ta σ H Q
def EpO (te : TE) (env : En) (u : Ow) : Prop := ∀ F0 H0 F H σ, Sm P w K F0 H0 F H σ env → ∀ Q : VK, (∀ p o F' H', Wk F H F' H' → H p = none → F' p = none → H' p = some o → OwOk P w K F' p u o → Q (.ref p) H') → te σ H Q
def EpN (te : TE) (env : En) (ds : List Dt) : Prop := ∀ F0 H0 F H σ, Sm P w K F0 H0 F H σ env → ∀ Q : VK, (∀ p vs F' H', Wk F H F' H' → H p = none → F' p = none → H' p = some (.lst vs) → RpL K F' ds vs → Q (.ref p) H') → te σ H Q
def Op (to : TO) (env : En) (o : Option Int) : Prop := ∀ F0 H0 F H σ, Sm P w K F0 H0 F H σ env → ∀ Q : Option Int → Hp → Prop, (∀ F' H', Wk F H F' H' → Q o H') → to σ H Q
end
section
variable {P : Program} {w : World} {K : PySem.W.Frag} {env env1 env2 : En} {ta tb te tc : TE} {tl th : TO} {t u : TT} {d e z : Dt} {r r' : R2}
theorem ep_var {i : Nat} (h : env[i]? = some (.d d) := by rfl) : Ep P w K (tVar i) env d := fun F0 H0 F H σ S Q q => by
  obtain ⟨v, h1, w, rfl, r⟩ := S.sl i _ h
  exact ⟨w, h1, q w F H (Wk.refl S.sub) r⟩
theorem ep_c {v : V} (h : ∀ F, Rp K F d v) : Ep P w K (tC v) env d := fun F0 H0 F H σ S Q q => q v F H (Wk.refl S.sub) (h F)
theorem ep_int {i : Int} : Ep P w K (tC (.int i)) env (.int i) := ep_c fun _ => rfl
theorem ep_bl {b : Bool} : Ep P w K (tC (.bl b)) env (.bl b) := ep_c fun _ => rfl
theorem ep_str {x : Str} : Ep P w K (tC (.str x)) env (.str x) := ep_c fun _ => rfl
theorem ep_non : Ep P w K (tC .non) env .non := ep_c fun _ => rfl
theorem ep_ty {n : String} : Ep P w K (tC (.ty n)) env (.ty n) := ep_c fun _ => rfl
theorem ep_is (h : Ep P w K te env d) (e' : d = e) : Ep P w K te env e := by
  rw [← e']
  exact h
theorem tp_is {b c : Bool} (h : Tp P w K t env b) (e' : b = c) : Tp P w K t env c := by
  rw [← e']
  exact h
theorem ep_op (ha : Ep P w K ta env d) (hb : Ep P w K tb env e) (hr : R2d K r d e z) : Ep P w K (tOp r ta tb) env z := fun F0 H0 F H σ S Q q =>
  ha F0 H0 F H σ S _ fun x F1 H1 w1 r1 => hb F0 H0 F1 H1 σ (S.wk w1) _ fun y F2 H2 w2 r2 => hr F2 H2 x y w2.s (r1.mono w2.f) r2 Q fun v F3 H3 w3 r3 => q v F3 H3 ((w1.trans w2).trans w3) r3
theorem ep_un {r : V → Hp → VK → Prop} (ha : Ep P w K ta env d) (hr : R1d K r d z) : Ep P w K (tUn r ta) env z := fun F0 H0 F H σ S Q q =>
  ha F0 H0 F H σ S _ fun x F1 H1 w1 r1 => hr F1 H1 x w1.s r1 Q fun v F3 H3 w3 r3 => q v F3 H3 (w1.trans w3) r3
theorem ap_nil : EpA P w K tNil env [] := fun F0 H0 F H σ S Q q => q [] F H (Wk.refl S.sub) rfl
theorem ap_cons {tr : TA} {ds : List Dt} (h : Ep P w K te env d) (hr : EpA P w K tr env ds) : EpA P w K (tCons te tr) env (d :: ds) := fun F0 H0 F H σ S Q q =>
  h F0 H0 F H σ S _ fun x F1 H1 w1 r1 => hr F0 H0 F1 H1 σ (S.wk w1) _ fun vs F2 H2 w2 r2 => q (x :: vs) F2 H2 (w1.trans w2) ⟨x, vs, rfl, r1.mono w2.f, r2⟩
theorem ep_cb {r : List V → Hp → VK → Prop} {ta : TA} {ds : List Dt} (h : EpA P w K ta env ds) (hr : RLd K r ds z) : Ep P w K (tCB r ta) env z := fun F0 H0 F H σ S Q q =>
  h F0 H0 F H σ S _ fun vs F1 H1 w1 r1 => hr F1 H1 vs w1.s r1 Q fun v F3 H3 w3 r3 => q v F3 H3 (w1.trans w3) r3
theorem np_cb {r : List V → Hp → VK → Prop} {ta : TA} {ds es : List Dt} (h : EpA P w K ta env ds) (hr : RLn K r ds es) : EpN P w K (tCB r ta) env es := fun F0 H0 F H σ S Q q =>
  h F0 H0 F H σ S _ fun vs F1 H1 w1 r1 => hr F1 H1 vs w1.s r1 Q fun p us F3 H3 w3 n1 n2 h3 r3 => q p us F3 H3 (w1.trans w3) (fresh_back w1.h n1) n2 h3 r3
/-- a new list as data -/
theorem ep_new {ds : List Dt} (h : EpN P w K te env ds) : Ep P w K te env (.lst ds) := fun F0 H0 F H σ S Q q =>
  h F0 H0 F H σ S Q fun p vs F1 H1 w1 n1 n2 h1 r1 => q (.ref p) (L2.upd F1 p (.lst vs)) H1 (w1.give S.sub n1 h1) ⟨p, vs, rfl, SqL.of upd_same, r1.mono (Ex.new n2)⟩
theorem ep_tup {ta : TA} {ds : List Dt} (h : EpA P w K ta env ds) (hl : ds.length ≤ 100000 := by exact Nat.le_of_ble_eq_true rfl) : Ep P w K (tTup ta) env (.tup ds) := fun F0 H0 F H σ S Q q =>
  h F0 H0 F H σ S _ fun vs F1 H1 w1 r1 => ⟨sz_of (by rw [← r1.length]; exact hl), fun p hp => q (.ref p) (L2.upd F1 p (.tup vs)) (L2.upd H1 p (.tup vs)) (w1.trans (Wk.new w1.s _ hp)) ⟨p, vs, rfl, SqT.of upd_same, r1.mono (Ex.new (none_sub w1.s hp))⟩⟩
theorem np_lst {ta : TA} {ds : List Dt} (h : EpA P w K ta env ds) (hl : ds.length ≤ 100000 := by exact Nat.le_of_ble_eq_true rfl) : EpN P w K (tLst ta) env ds := fun F0 H0 F H σ S Q q =>
  h F0 H0 F H σ S _ fun vs F1 H1 w1 r1 => ⟨sz_of (by rw [← r1.length]; exact hl), fun p hp => q p vs F1 (L2.upd H1 p (.lst vs)) (w1.trans (Wk.own w1.s _ hp)) (fresh_back w1.h hp) (none_sub w1.s hp) upd_same r1⟩
theorem ep_lst {ta : TA} {ds : List Dt} (h : EpA P w K ta env ds) (hl : ds.length ≤ 100000 := by exact Nat.le_of_ble_eq_true rfl) : Ep P w K (tLst ta) env (.lst ds) := ep_new (np_lst h hl)
theorem ep_chain {a b : Bool} {f : Dt} (ha : Ep P w K ta env d) (hb : Ep P w K tb env e) (hr : R2d K r d e (.bl a)) (hc : a = true → Ep P w K tc env f) (hr' : a = true → R2d K r' e f (.bl b)) : Ep P w K (tChain r r' ta tb tc) env (.bl (a && b)) := fun F0 H0 F H σ S Q q =>
  ha F0 H0 F H σ S _ fun x F1 H1 w1 r1 => hb F0 H0 F1 H1 σ (S.wk w1) _ fun y F2 H2 w2 r2 => hr F2 H2 x y w2.s (r1.mono w2.f) r2 _ fun v F3 H3 w3 r3 => by
    refine ⟨a, r3, ?_⟩
    cases a with
    | true =>
      show tc σ H3 _
      exact hc rfl F0 H0 F3 H3 σ (((S.wk w1).wk w2).wk w3) _ fun c F4 H4 w4 r4 => hr' rfl F4 H4 y c w4.s (r2.mono (w3.f.trans w4.f)) r4 Q fun v F5 H5 w5 r5 => q v F5 H5 (((((w1.trans w2).trans w3)).trans w4).trans w5) r5
    | false =>
      show Q (.bl false) H3
      exact q _ F3 H3 ((w1.trans w2).trans w3) rfl
theorem tp_test {b : Bool} (h : Ep P w K te env (.bl b)) : Tp P w K (tTest te) env b := fun F0 H0 F H σ S Q q => h F0 H0 F H σ S _ fun v F1 H1 w1 r1 => ⟨b, r1, q F1 H1 w1⟩
theorem tp_B {b : Bool} (h : Ep P w K te env (.bl b)) : Tp P w K (tB te) env b := fun F0 H0 F H σ S Q q => h F0 H0 F H σ S _ fun v F1 H1 w1 r1 => ⟨b, r1, q F1 H1 w1⟩
theorem tp_and {a b : Bool} (h1 : Tp P w K t env a) (h2 : a = true → Tp P w K u env b) : Tp P w K (tAnd t u) env (a && b) := fun F0 H0 F H σ S Q q => h1 F0 H0 F H σ S _ fun F1 H1 w1 => by
  cases a with
  | true =>
    show u σ H1 Q
    exact h2 rfl F0 H0 F1 H1 σ (S.wk w1) Q fun F2 H2 w2 => q F2 H2 (w1.trans w2)
  | false =>
    show Q false H1
    exact q F1 H1 w1
theorem tp_or {a b : Bool} (h1 : Tp P w K t env a) (h2 : a = false → Tp P w K u env b) : Tp P w K (tOr t u) env (a || b) := fun F0 H0 F H σ S Q q => h1 F0 H0 F H σ S _ fun F1 H1 w1 => by
  cases a with
  | false =>
    show u σ H1 Q
    exact h2 rfl F0 H0 F1 H1 σ (S.wk w1) Q fun F2 H2 w2 => q F2 H2 (w1.trans w2)
  | true =>
    show Q true H1
    exact q F1 H1 w1
theorem tp_not {a : Bool} (h : Tp P w K t env a) : Tp P w K (tNot t) env (!a) := fun F0 H0 F H σ S Q q => h F0 H0 F H σ S _ fun F1 H1 w1 => q F1 H1 w1
theorem ep_and {a b : Bool} (h1 : Ep P w K ta env (.bl a)) (h2 : a = true → Ep P w K tb env (.bl b)) : Ep P w K (tAndV ta tb) env (.bl (a && b)) := fun F0 H0 F H σ S Q q => h1 F0 H0 F H σ S _ fun v F1 H1 w1 r1 => ⟨a, r1, by
  cases a with
  | true =>
    show tb σ H1 Q
    exact h2 rfl F0 H0 F1 H1 σ (S.wk w1) Q fun v F2 H2 w2 r2 => q v F2 H2 (w1.trans w2) r2
  | false =>
    show Q (.bl false) H1
    exact q _ F1 H1 w1 rfl⟩
theorem ep_if {b : Bool} (h : Tp P w K t env b) (h1 : b = true → Ep P w K ta env d) (h2 : b = false → Ep P w K tb env d) : Ep P w K (tIf t ta tb) env d := fun F0 H0 F H σ S Q q => h F0 H0 F H σ S _ fun F1 H1 w1 => by
  cases b with
  | true =>
    show ta σ H1 Q
    exact h1 rfl F0 H0 F1 H1 σ (S.wk w1) Q fun v F2 H2 w2 r2 => q v F2 H2 (w1.trans w2) r2
  | false =>
    show tb σ H1 Q
    exact h2 rfl F0 H0 F1 H1 σ (S.wk w1) Q fun v F2 H2 w2 r2 => q v F2 H2 (w1.trans w2) r2
theorem tp_tru {b : Bool} (h : Ep P w K te env d) (hb : truD d = some b) : Tp P w K (fun σ H Q => te σ H fun x H' => ∃ k, TruV K x H' k ∧ Q k H') env b := fun F0 H0 F H σ S Q q => h F0 H0 F H σ S _ fun v F1 H1 w1 r1 => by
  refine ⟨b, ?_, q F1 H1 w1⟩
  cases d <;> simp only [truD, Option.some.injEq, reduceCtorEq] at hb
  · cases r1; exact hb.symm
  · cases r1; exact hb.symm
  · cases r1; exact hb.symm
  · obtain ⟨a, vs, rfl, h1, h2⟩ := r1
    exact .inr (.inl ⟨vs, ex_t w1.s h1, by rw [← hb, isEmpty_rp h2]⟩)
  · obtain ⟨a, vs, rfl, h1, h2⟩ := r1
    exact .inl ⟨vs, ex_l w1.s h1, by rw [← hb, isEmpty_rp h2]⟩
theorem qo_none : Op P w K tNoPart env none := fun F0 H0 F H σ S Q q => q F H (Wk.refl S.sub)
theorem qo_some {i : Int} (h : Ep P w K te env (.int i)) : Op P w K (tPart te) env (some i) := fun F0 H0 F H σ S Q q => h F0 H0 F H σ S _ fun v F1 H1 w1 r => ⟨i, r, q F1 H1 w1⟩
theorem np_slL {xs : List Dt} {lo hi : Option Int} (h : Ep P w K te env (.lst xs)) (h1 : Op P w K tl env lo) (h2 : Op P w K th env hi) : EpN P w K (tSl (rSlL K) te tl th) env ((xs.drop (HT.sIx xs.length 0 lo)).take (HT.sIx xs.length xs.length hi - HT.sIx xs.length 0 lo)) := fun F0 H0 F H σ S Q q =>
  h F0 H0 F H σ S _ fun v F1 H1 w r => h1 F0 H0 F1 H1 σ (S.wk w) _ fun F2 H2 w2 => h2 F0 H0 F2 H2 σ ((S.wk w).wk w2) _ fun F3 H3 w3 => by
    obtain ⟨a, vs, rfl, g1, g2⟩ := r
    refine ⟨a, vs, rfl, ex_l (w.s.trans (w2.h.trans w3.h)) g1, fun p hp => q p _ F3 _ (((w.trans w2).trans w3).trans (Wk.own w3.s _ hp)) (fresh_back ((w.trans w2).trans w3).h hp) (none_sub w3.s hp) upd_same ?_⟩
    unfold cutV
    rw [← g2.length]
    exact RpL.take _ (RpL.drop _ (g2.mono (w2.f.trans w3.f)))
theorem ap_starL {tr : TA} {ds es : List Dt} (h : Ep P w K te env (.lst ds)) (hr : EpA P w K tr env es) : EpA P w K (StX.tStar K te tr) env (ds ++ es) := fun F0 H0 F H σ S Q q =>
  h F0 H0 F H σ S _ fun x F1 H1 w1 ⟨a, vs, e, s, r1⟩ => ⟨a, vs, e, .inr (ex_l w1.s s), hr F0 H0 F1 H1 σ (S.wk w1) _ fun us F2 H2 w2 r2 => q (vs ++ us) F2 H2 (w1.trans w2) (RpL.append (r1.mono w2.f) r2)⟩
theorem ap_starT {tr : TA} {ds es : List Dt} (h : Ep P w K te env (.tup ds)) (hr : EpA P w K tr env es) : EpA P w K (StX.tStar K te tr) env (ds ++ es) := fun F0 H0 F H σ S Q q =>
  h F0 H0 F H σ S _ fun x F1 H1 w1 ⟨a, vs, e, s, r1⟩ => ⟨a, vs, e, .inl (ex_t w1.s s), hr F0 H0 F1 H1 σ (S.wk w1) _ fun us F2 H2 w2 r2 => q (vs ++ us) F2 H2 (w1.trans w2) (RpL.append (r1.mono w2.f) r2)⟩
theorem ee_p (h : Ep P w K te env d) : Ee P w K te env d env := .nw h
theorem te_p {b : Bool} (h : Tp P w K t env b) : Te P w K t env b env := ⟨Sh.refl, fun F0 H0 F H σ S Q q => h F0 H0 F H σ S Q fun F' H' k => q F' H' (.of k) (S.wk k)⟩
theorem ea_p {ta : TA} {ds : List Dt} (h : EpA P w K ta env ds) : EeA P w K ta env ds env := ⟨Sh.refl, fun F0 H0 F H σ S Q q => h F0 H0 F H σ S Q fun vs F' H' k r => q vs F' H' (.of k) (S.wk k) r⟩
theorem eo_p {o : Ow} (h : EpO P w K te env o) : EnO P w K te env o env := ⟨Sh.refl, fun F0 H0 F H σ S Q q => h F0 H0 F H σ S Q fun p o F' H' k n1 n2 h1 r => q p o F' H' (.of k) (S.wk k) n1 n2 h1 r⟩
theorem po_n {ds : List Dt} (h : EpN P w K te env ds) : EpO P w K te env (.lst ds) := fun F0 H0 F H σ S Q q => h F0 H0 F H σ S Q fun p vs F' H' k n1 n2 h1 r => q p _ F' H' k n1 n2 h1 ⟨vs, rfl, r⟩
theorem en_p {ds : List Dt} (h : EpN P w K te env ds) : EnL P w K te env ds env := eo_p (po_n h)
theorem po_dt {o : Ow} (h : EpO P w K te env o) (hd : o.dt = some d := by rfl) : Ep P w K te env d := fun F0 H0 F H σ S Q q =>
  h F0 H0 F H σ S Q fun p ho F1 H1 k n1 n2 h1 r1 => q (.ref p) (L2.upd F1 p ho) H1 (k.give S.sub n1 h1) ((r1.mono (Ex.new n2)).rp hd upd_same)
end
end Qw
set_option maxHeartbeats 1000000
namespace Qw
open PySem PySem.Spec PyProof.Rows L2 Evl
open Pw (Dt Rp RpL Wk none_sub get_set set_same set_ne R2d R1d RLd RLn Kq KqL truD isEmpty_rp flatD fl py pyL rangeD rangeD_len charsD wl_at Wl wl_range)
/-- what a def gives: data, a new thing, an exception -/
inductive Rs where
  | d (d : Dt) | o (u : Ow) | x (x : Xn)
def RsK (P : Program) (w : World) (K : PySem.W.Frag) (F H : Hp) (Q : VK) (E : XK) : Rs → Prop
  | .d d => Kq K F H d Q
  | .o u => ∀ p o F' H', Wk F H F' H' → H p = none → F' p = none → H' p = some o → OwOk P w K F' p u o → Q (.ref p) H'
  | .x x => ∀ od F' H', Wk F H F' H' → XnOk K F' x od → E (.ref x.C) od H'
def spR (P : Program) (w : World) (K : PySem.W.Frag) (R : List Dt → Rs → Prop) : Sp := fun vs H Q E => ∃ F ds r, Ex F H ∧ RpL K F ds vs ∧ R ds r ∧ RsK P w K F H Q E r
/-- a def that changes its first argument: R arguments-but-the-first, what it was, what is given, what it is then -/
def spM (P : Program) (w : World) (K : PySem.W.Frag) (R : Ow → List Dt → Dt → Ow → Prop) : Sp := fun vs H Q _ => ∃ F p vs' o u ds d u', vs = .ref p :: vs' ∧ Ex F H ∧ F p = none ∧ H p = some o ∧ OwOk P w K F p u o ∧ RpL K F ds vs' ∧ R u ds d u' ∧
  ∀ v F' H' o', Ex F F' → Ex F' H' → (∀ a z, a ≠ p → H a = some z → H' a = some z) → (∀ a z, H a = some z → F a = none → F' a = none) → (∀ a, H' a = none → H a = none) → H' p = some o' → OwOk P w K F' p u' o' → Rp K F' d v → Q v H'
inductive Out where
  | nx (e : En) | ct (e : En) | nc (e : En) | bk (e : En) | rt (d : Dt) | rte (d : Dt) (e : En) | ro (u : Ow) | rz (W : WX) (x : Xn) (e : En)
section
variable (P : Program) (w : World) (K : PySem.W.Frag)
def Po (F0 H0 F : Hp) (D : Ends) : Out → Prop
  | .nx e => ∀ F' H' σ', Ex F F' → Sm P w K F0 H0 F' H' σ' e → D.nx σ' H'
  | .ct e => ∀ F' H' σ', Ex F F' → Sm P w K F0 H0 F' H' σ' e → D.ct σ' H'
  | .nc e => ∀ F' H' σ', Ex F F' → Sm P w K F0 H0 F' H' σ' e → D.nx σ' H' ∧ D.ct σ' H'
  | .bk e => ∀ F' H' σ', Ex F F' → Sm P w K F0 H0 F' H' σ' e → D.bk σ' H'
  | .rt d => ∀ v F' H', Wk F0 H0 F' H' → Rp K F' d v → D.rt v H'
  | .rte d e => ∀ v F' H' σ', Ex F F' → Sm P w K F0 H0 F' H' σ' e → Rp K F' d v → D.rt v H'
  | .ro u => ∀ p o F' H', Wk F0 H0 F' H' → H0 p = none → F' p = none → H' p = some o → OwOk P w K F' p u o → D.rt (.ref p) H'
  | .rz W x e => ∀ od F' H' σ', Ex F F' → Sm P w K F0 H0 F' H' σ' e → XnOk K F' x od → W (.ref x.C) od σ' H'
def Se (t : TS) (env : En) (o : Out) : Prop := ∀ F0 H0 F H σ D, Sm P w K F0 H0 F H σ env → Po P w K F0 H0 F D o → t D σ H
def Ge (g : TG) (d : Dt) (env env' : En) : Prop := ∀ F0 H0 F H σ v, Sm P w K F0 H0 F H σ env → Rp K F d v → ∀ Q : L2.St → Hp → Prop, (∀ F' H' σ', Ex F F' → Sm P w K F0 H0 F' H' σ' env' → Q σ' H') → g v σ H Q
/-- an expression that raises -/
def Er (W : WX) (te : TE) (env : En) (x : Xn) (env' : En) : Prop := ∀ F0 H0 F H σ, Sm P w K F0 H0 F H σ env → ∀ Q : VK, (∀ od F' H', Ex F F' → Sm P w K F0 H0 F' H' σ env' → XnOk K F' x od → W (.ref x.C) od σ H') → te σ H Q
def Ie (wi : TI) (env : En) (ds : List Dt) (env' : En) : Prop := ∀ F0 H0 F H σ, Sm P w K F0 H0 F H σ env → ∀ R : It → Hp → Prop, (∀ J F' H', Ex F F' → Sm P w K F0 H0 F' H' σ env' → Wl K F' J ds → R J H') → wi σ H R
/-- .. that changes nothing -/
def Ip (wi : TI) (env : En) (ds : List Dt) : Prop := ∀ F0 H0 F H σ, Sm P w K F0 H0 F H σ env → ∀ R : It → Hp → Prop, (∀ J F' H', Wk F H F' H' → Wl K F' J ds → R J H') → wi σ H R
end
section
variable {P : Program} {w : World} {K : PySem.W.Frag} {env env1 env2 env3 : En} {ta tb te tc : TE} {t u : TT} {d e z : Dt} {s s1 s2 : TS} {o : Out} {g : TG} {tA : TA} {R : List Dt → Rs → Prop} {ds : List Dt}
theorem ep_call {E : XK} (h : EpA P w K tA env ds) (hf : R ds (.d d)) : Ep P w K (tCall (spR P w K R) [] E tA) env d := fun F0 H0 F H σ S Q q =>
  h F0 H0 F H σ S _ fun vs F1 H1 w1 r1 => ⟨F1, ds, .d d, w1.s, by rw [List.append_nil]; exact r1, hf, fun v F2 H2 w2 r2 => q v F2 H2 (w1.trans w2) r2⟩
theorem ep_callS {E : L2.St → XK} (h : EpA P w K tA env ds) (hf : R ds (.d d)) : Ep P w K (tCallS (spR P w K R) E tA) env d := fun F0 H0 F H σ S Q q =>
  h F0 H0 F H σ S _ fun vs F1 H1 w1 r1 => ⟨F1, ds, .d d, w1.s, r1, hf, fun v F2 H2 w2 r2 => q v F2 H2 (w1.trans w2) r2⟩
theorem po_call {E : XK} {u : Ow} (h : EpA P w K tA env ds) (hf : R ds (.o u)) : EpO P w K (tCall (spR P w K R) [] E tA) env u := fun F0 H0 F H σ S Q q =>
  h F0 H0 F H σ S _ fun vs F1 H1 w1 r1 => ⟨F1, ds, .o u, w1.s, by rw [List.append_nil]; exact r1, hf, fun p o F2 H2 w2 n1 n2 h1 r2 => q p o F2 H2 (w1.trans w2) (none_sub w1.h n1) n2 h1 r2⟩
theorem po_callS {E : L2.St → XK} {u : Ow} (h : EpA P w K tA env ds) (hf : R ds (.o u)) : EpO P w K (tCallS (spR P w K R) E tA) env u := fun F0 H0 F H σ S Q q =>
  h F0 H0 F H σ S _ fun vs F1 H1 w1 r1 => ⟨F1, ds, .o u, w1.s, r1, hf, fun p o F2 H2 w2 n1 n2 h1 r2 => q p o F2 H2 (w1.trans w2) (none_sub w1.h n1) n2 h1 r2⟩
theorem er_callS {W : WX} {x : Xn} (h : EpA P w K tA env ds) (hf : R ds (.x x)) : Er P w K W (tCallS (spR P w K R) (WE W) tA) env x env := fun F0 H0 F H σ S Q q =>
  h F0 H0 F H σ S _ fun vs F1 H1 w1 r1 => ⟨F1, ds, .x x, w1.s, r1, hf, fun od F2 H2 w2 r2 => q od F2 H2 (w1.f.trans w2.f) (S.wk (w1.trans w2)) r2⟩
theorem spR_len {n : Nat} (hf : ∀ ds r, R ds r → ds.length = n) (vs : List V) (H : Hp) (Q : VK) (E : XK) (h : spR P w K R vs H Q E) : vs.length = n := by
  obtain ⟨F, ds, d, _, r, e, _⟩ := h
  rw [← r.length]
  exact hf ds d e
theorem Po.ex {F0 H0 F F' : Hp} {D : Ends} (e : Ex F F') (p : Po P w K F0 H0 F D o) : Po P w K F0 H0 F' D o := by
  cases o with
  | nx e1 => exact fun F2 H2 σ2 e2 S => p F2 H2 σ2 (e.trans e2) S
  | ct e1 => exact fun F2 H2 σ2 e2 S => p F2 H2 σ2 (e.trans e2) S
  | nc e1 => exact fun F2 H2 σ2 e2 S => p F2 H2 σ2 (e.trans e2) S
  | bk e1 => exact fun F2 H2 σ2 e2 S => p F2 H2 σ2 (e.trans e2) S
  | rt d => exact p
  | rte d e1 => exact fun v F2 H2 σ2 e2 S => p v F2 H2 σ2 (e.trans e2) S
  | ro u => exact p
  | rz W x e1 => exact fun od F2 H2 σ2 e2 S => p od F2 H2 σ2 (e.trans e2) S
theorem ge_name {i : Nat} : Ge P w K (gName i) d env (env.set i (.d d)) := fun F0 H0 F H σ v S r Q q => q F H _ (Ex.refl F) (S.setD r)
theorem se_asgG (h : Ee P w K te env d env1) (hg : Ge P w K g d env1 env2) : Se P w K (tAsg te g) env (.nx env2) := fun F0 H0 F H σ D S p =>
  h.2 F0 H0 F H σ S _ fun v F1 H1 k S1 r => hg F0 H0 F1 H1 σ v S1 r _ fun F2 H2 σ' e S' => p F2 H2 σ' (k.f.trans e) S'
theorem se_asg {i : Nat} (h : Ee P w K te env d env1) : Se P w K (tAsg te (gName i)) env (.nx (env1.set i (.d d))) := se_asgG h ge_name
/-- x = a new thing that will be changed -/
theorem se_own {i : Nat} {v : Ow} (h : EnO P w K te env v env1) : Se P w K (tAsg te (gName i)) env (.nx (env1.set i (.ow none v))) := fun F0 H0 F H σ D S p =>
  h.2 F0 H0 F H σ S _ fun a ho F1 H1 k S1 n1 n2 h1 r => p F1 H1 _ k.f (S1.setO n2 (none_sub S.g.h n1) h1 r fun z => S.ownNew n1 (h.1.own z))
theorem se_ret (h : Ee P w K te env d env1) : Se P w K (tRet te) env (.rt d) := fun F0 H0 F H σ D S p => h.2 F0 H0 F H σ S _ fun v F1 H1 k S1 r => p v F1 H1 S1.g r
theorem se_rte (h : Ee P w K te env d env1) : Se P w K (tRet te) env (.rte d env1) := fun F0 H0 F H σ D S p => h.2 F0 H0 F H σ S _ fun v F1 H1 k S1 r => p v F1 H1 σ k.f S1 r
theorem se_ro {v : Ow} (h : EnO P w K te env v env1) : Se P w K (tRet te) env (.ro v) := fun F0 H0 F H σ D S p => h.2 F0 H0 F H σ S _ fun a ho F1 H1 k S1 n1 n2 h1 r => p a ho F1 H1 S1.g (none_sub S.g.h n1) n2 h1 r
/-- return x, x one's own -/
theorem se_roV {i : Nat} {t' : Option Addr} {v : Ow} (h : env[i]? = some (.ow t' v)) : Se P w K (tRet (tVar i)) env (.ro v) := fun F0 H0 F H σ D S p => by
  obtain ⟨a, ho, e1, _, g1, g2, g3, g4⟩ := S.own h
  exact ⟨_, e1, p a ho F H S.g g2 g1 g3 g4⟩
theorem se_next : Se P w K tNext env (.nx env) := fun F0 H0 F H σ D S p => p F H σ (Ex.refl F) S
theorem se_drop (h : Ee P w K te env d env1) : Se P w K (tDrop te) env (.nx env1) := fun F0 H0 F H σ D S p => h.2 F0 H0 F H σ S _ fun v F1 H1 k S1 r => p F1 H1 σ k.f S1
theorem se_dropX {W : WX} {x : Xn} (h : Er P w K W te env x env1) : Se P w K (tDrop te) env (.rz W x env1) := fun F0 H0 F H σ D S p => h F0 H0 F H σ S _ fun od F1 H1 k S1 r => p od F1 H1 σ k S1 r
theorem se_asgX {W : WX} {x : Xn} (h : Er P w K W te env x env1) : Se P w K (tAsg te g) env (.rz W x env1) := fun F0 H0 F H σ D S p => h F0 H0 F H σ S _ fun od F1 H1 k S1 r => p od F1 H1 σ k S1 r
theorem se_retX {W : WX} {x : Xn} (h : Er P w K W te env x env1) : Se P w K (tRet te) env (.rz W x env1) := fun F0 H0 F H σ D S p => h F0 H0 F H σ S _ fun od F1 H1 k S1 r => p od F1 H1 σ k S1 r
theorem se_seq (h1 : Se P w K s1 env (.nx env1)) (h2 : Se P w K s2 env1 o) : Se P w K (tSeq s1 s2) env o := fun F0 H0 F H σ D S p =>
  h1 F0 H0 F H σ _ S fun F1 H1 σ1 e1 S1 => h2 F0 H0 F1 H1 σ1 D S1 (p.ex e1)
/-- an end that no later statement sees -/
def Out.fin : Out → Bool
  | .nx _ => false
  | .nc _ => false
  | _ => true
theorem se_seqF (h1 : Se P w K s1 env o) (f : o.fin = true := by rfl) : Se P w K (tSeq s1 s2) env o := fun F0 H0 F H σ D S p => by
  refine h1 F0 H0 F H σ _ S ?_
  cases o <;> first | exact p | cases f
theorem se_nc (h : Se P w K s env (.nx env1)) : Se P w K s env (.nc env1) := fun F0 H0 F H σ D S p => h F0 H0 F H σ D S fun F1 H1 σ1 e1 S1 => (p F1 H1 σ1 e1 S1).1
theorem se_cc (h : Se P w K s env (.ct env1)) : Se P w K s env (.nc env1) := fun F0 H0 F H σ D S p => h F0 H0 F H σ D S fun F1 H1 σ1 e1 S1 => (p F1 H1 σ1 e1 S1).2
theorem se_if {b : Bool} (h : Te P w K t env b env1) (h1 : b = true → Se P w K s1 env1 o) (h2 : b = false → Se P w K s2 env1 o) : Se P w K (tIfS t s1 s2) env o := fun F0 H0 F H σ D S p => h.2 F0 H0 F H σ S _ fun F1 H1 k S1 => by
  cases b with
  | true =>
    show s1 D σ H1
    exact h1 rfl F0 H0 F1 H1 σ D S1 (p.ex k.f)
  | false =>
    show s2 D σ H1
    exact h2 rfl F0 H0 F1 H1 σ D S1 (p.ex k.f)
/-- if t: s1 (no else), then s2 -/
theorem se_when {b : Bool} (h : Te P w K t env b env1) (h1 : b = true → Se P w K (tSeq s1 s2) env1 o) (h2 : b = false → Se P w K s2 env1 o) : Se P w K (tSeq (tIfS t s1 tNext) s2) env o := fun F0 H0 F H σ D S p => h.2 F0 H0 F H σ S _ fun F1 H1 k S1 => by
  cases b with
  | true =>
    show s1 { D with nx := s2 D } σ H1
    exact h1 rfl F0 H0 F1 H1 σ D S1 (p.ex k.f)
  | false =>
    show s2 D σ H1
    exact h2 rfl F0 H0 F1 H1 σ D S1 (p.ex k.f)
/-- if t: s1 else: s2, then s -/
theorem se_ifq {b : Bool} (h : Te P w K t env b env1) (h1 : b = true → Se P w K (tSeq s1 s) env1 o) (h2 : b = false → Se P w K (tSeq s2 s) env1 o) : Se P w K (tSeq (tIfS t s1 s2) s) env o := fun F0 H0 F H σ D S p => h.2 F0 H0 F H σ S _ fun F1 H1 k S1 => by
  cases b with
  | true =>
    show s1 { D with nx := s D } σ H1
    exact h1 rfl F0 H0 F1 H1 σ D S1 (p.ex k.f)
  | false =>
    show s2 { D with nx := s D } σ H1
    exact h2 rfl F0 H0 F1 H1 σ D S1 (p.ex k.f)
theorem se_le (h : Se P w K s env (.nx env1)) (l : Le env1 env2) : Se P w K s env (.nx env2) := fun F0 H0 F H σ D S p => h F0 H0 F H σ D S fun F1 H1 σ1 e1 S1 => p F1 H1 σ1 e1 (S1.le l)
theorem se_pre (l : Le env env1) (h : Se P w K s env1 o) : Se P w K s env o := fun F0 H0 F H σ D S p => h F0 H0 F H σ D (S.le l) p
theorem se_freeze {i : Nat} {t' : Option Addr} {v : Ow} (hi : env[i]? = some (.ow t' v)) (hd : v.dt = some d) (h : Se P w K s (env.set i (.d d)) o) : Se P w K s env o := fun F0 H0 F H σ D S p => by
  obtain ⟨a, ho, h1, h2, h3, h4, h5, S'⟩ := S.freeze hi hd
  exact h F0 H0 _ H σ D S' (p.ex (Ex.new h2))
theorem se_is (h : Se P w K s env o) {o' : Out} (e : o = o') : Se P w K s env o' := e ▸ h
def Gs (P : Program) (w : World) (K : PySem.W.Frag) (g : TGs) (ds : List Dt) (env env' : En) : Prop := ∀ F0 H0 F H σ vs, Sm P w K F0 H0 F H σ env → RpL K F ds vs → ∀ Q : L2.St → Hp → Prop, (∀ F' H' σ', Ex F F' → Sm P w K F0 H0 F' H' σ' env' → Q σ' H') → g vs σ H Q
theorem gs_nil : Gs P w K gNil [] env env := fun F0 H0 F H σ vs S r Q q => ⟨r, q F H σ (Ex.refl F) S⟩
theorem gs_cons {gr : TGs} (h : Ge P w K g d env env1) (hr : Gs P w K gr ds env1 env2) : Gs P w K (gCons g gr) (d :: ds) env env2 := fun F0 H0 F H σ vs S r Q q => by
  obtain ⟨v, rest, rfl, r1, r2⟩ := r
  exact ⟨v, rest, rfl, h F0 H0 F H σ v S r1 _ fun F1 H1 σ1 e1 S1 => hr F0 H0 F1 H1 σ1 rest S1 (r2.mono e1) Q fun F2 H2 σ2 e2 S2 => q F2 H2 σ2 (e1.trans e2) S2⟩
theorem ge_tup {gs : TGs} {n : Nat} (h : Gs P w K gs ds env env1) (hn : ds.length = n := by rfl) : Ge P w K (gTup K n gs) (.tup ds) env env1 := fun F0 H0 F H σ v S r Q q => by
  obtain ⟨a, vs, rfl, h1, h2⟩ := r
  exact ⟨a, vs, rfl, ex_t S.sub h1, by rw [← h2.length]; exact hn, h F0 H0 F H σ vs S h2 Q q⟩
theorem se_app {i : Nat} {t' : Option Addr} {xs : List Dt} (hi : env[i]? = some (.ow t' (.lst xs))) (h : Ee P w K te env d env1) (hi1 : env1[i]? = some (.ow t' (.lst xs)) := by rfl) (hz : xs.length < 100000) : Se P w K (tDrop (tBM K "list" rAppend (tVar i) (tCons te tNil))) env (.nx (env1.set i (.ow t' (.lst (xs ++ [d]))))) := fun F0 H0 F H σ D S p => by
  obtain ⟨a, ho, h1, g0, g1, g2, g3, vs, rfl, g4⟩ := S.own hi
  refine ⟨_, h1, .inl ⟨rfl, vs, sq_of g3⟩, h.2 F0 H0 F H σ S _ fun v F1 H1 k S1 r => ?_⟩
  obtain ⟨b, ho', e1, f0, f1, f2, f3, us, rfl, f4⟩ := S1.own hi1
  rw [h1] at e1
  cases e1
  exact ⟨a, us, v, rfl, rfl, f3, sz_lt (by rw [← f4.length]; exact hz), p F1 _ σ k.f (S1.mut hi1 h1 ⟨_, rfl, RpL.append f4 (RpL.cons r RpL.nil)⟩)⟩
theorem se_setL {i : Nat} {t' : Option Addr} {xs : List Dt} {k : Int} {n : Nat} (h : Ee P w K te env d env1) (hk : Ee P w K tb env1 (.int k) env2) (hi : env2[i]? = some (.ow t' (.lst xs)) := by rfl) (hn : ixN xs.length k = some n) : Se P w K (tAsg te (gSub (tVar i) tb rSetL)) env (.nx (env2.set i (.ow t' (.lst (xs.set n d))))) := fun F0 H0 F H σ D S p => by
  refine h.2 F0 H0 F H σ S _ fun v F1 H1 k1 S1 r => ?_
  have own1 : ∃ (t1 : Option Addr) (u1 : Ow), env1[i]? = some (.ow t1 u1) := by
    have hl : i < env1.length := by
      rw [hk.1.1]
      exact (List.getElem?_eq_some_iff.mp hi).1
    rcases hk.1.2 i env1[i] (List.getElem?_eq_getElem hl) with z | ⟨t1, u1, u2, z, _⟩
    · rw [hi] at z
      exact ⟨_, _, by rw [List.getElem?_eq_getElem hl, ← Option.some.inj z]⟩
    · exact ⟨t1, u1, by rw [List.getElem?_eq_getElem hl, z]⟩
  obtain ⟨t1, u1, hi1⟩ := own1
  obtain ⟨a, ho, h1, _⟩ := S1.own hi1
  refine ⟨_, h1, hk.2 F0 H0 F1 H1 σ S1 _ fun kv F2 H2 k2 S2 r2 => ?_⟩
  obtain ⟨b, ho', e1, f0, f1, f2, f3, us, rfl, f4⟩ := S2.own hi
  rw [h1] at e1
  cases e1
  exact ⟨a, us, k, n, rfl, r2, f3, by rw [← f4.length]; exact hn, p F2 _ σ (k1.f.trans k2.f) (S2.mut hi h1 ⟨_, rfl, RpL.set n f4 (r.mono k2.f)⟩)⟩
theorem Sm.start {F H : Hp} {vs : List V} {N : List Str} (e : Ex F H) (r : RpL K F ds vs) : Sm P w K F H F H (L2.start N vs) (ds.map Sl.d ++ List.replicate (N.length - ds.length) Sl.u) := by
  have hl := r.length
  refine ⟨e, Wk.refl e, by simp [L2.start, hl], fun i s h => ?_, fun i j t t' u u' p ne e1 e2 _ => ?_⟩
  · unfold L2.start
    by_cases hi : i < ds.length
    · rw [List.getElem?_append_left (by simpa using hi), List.getElem?_map] at h
      cases q : ds[i]? with
      | none => rw [q] at h; cases h
      | some d =>
        rw [q] at h
        cases h
        obtain ⟨v, h1, h2⟩ := r.get q
        exact ⟨some v, by rw [List.getElem?_append_left (by simp; omega), List.getElem?_map, h1]; rfl, v, rfl, h2⟩
    · rw [List.getElem?_append_right (by simpa using hi), List.length_map, List.getElem?_replicate] at h
      split at h
      · rename_i lt
        cases h
        exact ⟨none, by rw [List.getElem?_append_right (by simp; omega), List.length_map, List.getElem?_replicate, if_pos (by omega)], rfl⟩
      · cases h
  · by_cases hi : i < ds.length
    · rw [List.getElem?_append_left (by simpa using hi), List.getElem?_map] at e1
      cases q : ds[i]? <;> rw [q] at e1 <;> cases e1
    · rw [List.getElem?_append_right (by simpa using hi), List.length_map, List.getElem?_replicate] at e1
      split at e1 <;> cases e1
/-- the body does what is due: for an exception, whatever the slots are -/
def Does (P : Program) (w : World) (K : PySem.W.Frag) (E : XK) (s : TS) (env : En) : Rs → Prop
  | .d d => Se P w K s env (.rt d) ∨ (d = .non ∧ ∃ e, Se P w K s env (.nx e))
  | .o u => Se P w K s env (.ro u)
  | .x x => ∃ e, Se P w K s env (.rz (fun cls d _ H => E cls d H) x e)
theorem run_r {N : List Str} {vs : List V} {H : Hp} {Q : VK} {E : XK} (h : spR P w K R vs H Q E) (b : ∀ ds r, R ds r → Does P w K E s (ds.map Sl.d ++ List.replicate (N.length - ds.length) Sl.u) r) : s { nx := fun _ H' => Q .non H', rt := Q } (L2.start N vs) H := by
  obtain ⟨F, ds, r, e, rp, hf, q⟩ := h
  have hb := b ds r hf
  cases r with
  | d d =>
    rcases hb with hb | ⟨rfl, e1, hb⟩
    · exact hb F H F H _ _ (Sm.start e rp) fun v F' H' k r' => q v F' H' k r'
    · exact hb F H F H _ _ (Sm.start e rp) fun F' H' σ' _ S => q .non F' H' S.g rfl
  | o u => exact hb F H F H _ _ (Sm.start e rp) fun p o F' H' k n0 n1 h1 r' => q p o F' H' k n0 n1 h1 r'
  | x x =>
    obtain ⟨e1, hb⟩ := hb
    exact hb F H F H _ _ (Sm.start e rp) fun od F' H' σ' _ S r' => q od F' H' S.g r'
end
end Qw
set_option maxHeartbeats 1000000
namespace Qw
open PySem PySem.Spec PyProof.Rows L2 Evl
open Pw (Dt Rp RpL Wk none_sub get_set set_same set_ne R2d R1d RLd RLn Kq KqL truD isEmpty_rp flatD fl py pyL rangeD rangeD_len charsD wl_at Wl wl_range rangeD_nat find_split itemD)
section
variable {P : Program} {w : World} {K : PySem.W.Frag} {env env1 env2 env3 : En} {ta tb te tc tl : TE} {t u : TT} {d e z : Dt} {s s1 s2 : TS} {o : Out} {g : TG} {tA : TA} {ds : List Dt} {wi : TI}
theorem ip_list (h : Ep P w K tl env (.lst ds)) : Ip P w K (iList K tl) env ds := fun F0 H0 F H σ S R k =>
  h F0 H0 F H σ S _ fun v F1 H1 k1 r => by
    obtain ⟨a, vs, rfl, h1, h2⟩ := r
    exact ⟨a, rfl, ⟨vs, ex_l k1.s h1⟩, k _ F1 H1 k1 (wl_at h2 walk_list fun H e => ex_l e h1)⟩
theorem ip_tup (h : Ep P w K tl env (.tup ds)) : Ip P w K (iTup K tl) env ds := fun F0 H0 F H σ S R k =>
  h F0 H0 F H σ S _ fun v F1 H1 k1 r => by
    obtain ⟨a, vs, rfl, h1, h2⟩ := r
    exact ⟨a, rfl, ⟨vs, ex_t k1.s h1⟩, k _ F1 H1 k1 (wl_at h2 walk_tup fun H e => ex_t e h1)⟩
theorem ip_rng1 {n : Int} (h : EpA P w K tA env [.int n]) (hn : -100000 ≤ n ∧ n ≤ 100000) : Ip P w K (iRng1 tA) env (rangeD 0 n.toNat) := fun F0 H0 F H σ S R k =>
  h F0 H0 F H σ S _ fun vs F1 H1 k1 r => by
    obtain ⟨v, r', rfl, e1, e2⟩ := r
    cases e1; cases e2
    exact ⟨n, rfl, by omega, by omega, k _ F1 H1 k1 wl_range⟩
theorem ip_str {x : Str} (h : Ep P w K tl env (.str x)) : Ip P w K (iStr tl) env (charsD x) := fun F0 H0 F H σ S R k =>
  h F0 H0 F H σ S _ fun v F1 H1 k1 r => by
    cases r
    refine ⟨x, rfl, k _ F1 H1 k1 ?_⟩
    have hl : (charsD x).length = x.cps.size := by simp [charsD]
    unfold Wl
    rw [hl]
    refine walk_str.mono (fun _ _ => trivial) fun i H x' H' hi e y F2 e2 e3 => ?_
    obtain ⟨rfl, c, hc, rfl⟩ := y
    exact ⟨F2, .str ⟨#[c]⟩, Wk.refl e3, by simp [charsD, hc], rfl⟩
theorem ie_p (h : Ip P w K wi env ds) : Ie P w K wi env ds env := fun F0 H0 F H σ S R k => h F0 H0 F H σ S R fun J F1 H1 k1 W => k J F1 H1 k1.f (S.wk k1) W
theorem se_for {tb : TS} (hI : Ie P w K wi env ds env1) (E : Nat → En) (m : Nat) (hm : m ≤ ds.length) (h0 : Le env1 (E 0))
    (hs : ∀ i d, i < m → ds[i]? = some d → ∃ e1, Ge P w K g d (E i) e1 ∧ Se P w K tb e1 (.nc (E (i + 1))))
    (hd : (m = ds.length ∧ o = .nx (E m)) ∨ ∃ d e1, ds[m]? = some d ∧ Ge P w K g d (E m) e1 ∧ ((o.fin = true ∧ (∀ e, o ≠ .bk e) ∧ (∀ e, o ≠ .ct e) ∧ Se P w K tb e1 o) ∨ ∃ e, o = .nx e ∧ Se P w K tb e1 (.bk e))) : Se P w K (tFor wi g tb) env o := fun F0 H0 F H σ D S p =>
  hI F0 H0 F H σ S _ fun J F1 H1 f1 S1 W => by
    refine for_it W (fun i σ H => i ≤ m ∧ ∃ F, Ex F1 F ∧ Sm P w K F0 H0 F H σ (E i)) ⟨Nat.zero_le m, F1, Ex.refl F1, S1.le h0⟩ (fun i σ H _ h => ?_) (fun i x σ H H' hi h y => ?_) (fun σ H h => ?_)
    · obtain ⟨_, F2, e2, S2⟩ := h
      exact e2.trans S2.sub
    · obtain ⟨him, F2, e2, S2⟩ := h
      obtain ⟨F3, d, w3, hd', r3⟩ := y F2 e2 S2.sub
      by_cases hlt : i < m
      · obtain ⟨e1, hg, hb⟩ := hs i d hlt hd'
        refine hg F0 H0 F3 H' σ x (S2.wk w3) r3 _ fun F4 H4 σ3 e3 S3 => ?_
        refine hb F0 H0 F4 H4 σ3 _ S3 fun F5 H5 σ4 e4 S4 => ⟨⟨hlt, F5, ((e2.trans w3.f).trans e3).trans e4, S4⟩, ⟨hlt, F5, ((e2.trans w3.f).trans e3).trans e4, S4⟩⟩
      · have him' : i = m := by omega
        subst him'
        rcases hd with ⟨e, _⟩ | ⟨d', e1, h1, hg, hb⟩
        · omega
        · rw [hd'] at h1
          cases h1
          refine hg F0 H0 F3 H' σ x (S2.wk w3) r3 _ fun F4 H4 σ3 e3 S3 => ?_
          have ef : Ex F F4 := ((f1.trans e2).trans w3.f).trans e3
          rcases hb with ⟨ho, nb, nc, hz⟩ | ⟨e, rfl, hz⟩
          · refine hz F0 H0 F4 H4 σ3 _ S3 ?_
            have p' := p.ex ef
            cases o <;> first | exact p' | (cases ho; done) | exact absurd rfl (nb _) | exact absurd rfl (nc _)
          · exact hz F0 H0 F4 H4 σ3 _ S3 fun F5 H5 σ4 e4 S4 => p F5 H5 σ4 (ef.trans e4) S4
    · obtain ⟨hn, F2, e2, S2⟩ := h
      have e : m = ds.length := by omega
      rcases hd with ⟨_, rfl⟩ | ⟨d', e1, h1, _⟩
      · rw [← e] at S2
        exact p F2 H σ (f1.trans e2) S2
      · have := (List.getElem?_eq_some_iff.mp h1).1
        omega
/-- a fold -/
theorem se_fold {α S : Type} {tb : TS} (xs : List α) (dec : α → Dt) (hds : ds = xs.map dec) (hI : Ip P w K wi env ds) (enc : S → En) (step : S → α → S) (Pv : S → List α → Prop) (s0 : S) (h0 : Le env (enc s0)) (p0 : Pv s0 [])
    (hs : ∀ s pre a post, xs = pre ++ a :: post → Pv s pre → Pv (step s a) (pre ++ [a]) ∧ ∃ e1, Ge P w K g (dec a) (enc s) e1 ∧ Se P w K tb e1 (.nc (enc (step s a)))) : Se P w K (tFor wi g tb) env (.nx (enc (xs.foldl step s0))) := by
  subst hds
  have key : ∀ i, i ≤ xs.length → Pv ((xs.take i).foldl step s0) (xs.take i) := by
    intro i
    induction i with
    | zero => intro _; exact p0
    | succ i ih =>
      intro hi
      have hx : xs = xs.take i ++ xs[i] :: xs.drop (i + 1) := by simp
      have e : xs.take (i + 1) = xs.take i ++ [xs[i]] := by simp
      rw [e, List.foldl_append]
      exact (hs _ (xs.take i) xs[i] (xs.drop (i + 1)) hx (ih (by omega))).1
  refine se_for (ie_p hI) (fun i => enc ((xs.take i).foldl step s0)) xs.length (by simp) h0 (fun i d hi hd => ?_) (.inl ⟨by simp, by simp⟩)
  rw [List.getElem?_map, List.getElem?_eq_getElem hi] at hd
  cases hd
  have hx : xs = xs.take i ++ xs[i] :: xs.drop (i + 1) := by simp
  obtain ⟨_, e1, h1, h2⟩ := hs _ (xs.take i) xs[i] (xs.drop (i + 1)) hx (key i (by omega))
  refine ⟨e1, h1, ?_⟩
  have e : xs.take (i + 1) = xs.take i ++ [xs[i]] := by simp
  rw [e, List.foldl_append]
  exact h2
/-- a loop that searches: at the first d with p d it ends as z d says -/
theorem se_find {tb : TS} (p : Dt → Bool) (z : Dt → Out) (hz : ∀ d, (z d).fin = true ∧ (∀ e, z d ≠ .bk e) ∧ (∀ e, z d ≠ .ct e)) (hI : Ip P w K wi env ds) (E : En) (h0 : Le env E) (hs : ∀ d ∈ ds, ∃ e1, Ge P w K g d E e1 ∧ (p d = true → Se P w K tb e1 (z d)) ∧ (p d = false → Se P w K tb e1 (.nc E))) :
    Se P w K (tFor wi g tb) env (match ds.find? p with | some d => z d | none => .nx E) := by
  cases h : ds.find? p with
  | none =>
    have hn : ∀ d ∈ ds, p d = false := fun d hd => by simpa using List.find?_eq_none.mp h d hd
    refine se_for (ie_p hI) (fun _ => E) ds.length (Nat.le_refl _) h0 (fun i d hi hd => ?_) (.inl ⟨rfl, rfl⟩)
    have hm := List.mem_of_getElem? hd
    obtain ⟨e1, h1, _, h3⟩ := hs d hm
    exact ⟨e1, h1, h3 (hn d hm)⟩
  | some d =>
    obtain ⟨i, h1, h2, h3⟩ := find_split h
    have hi : i < ds.length := (List.getElem?_eq_some_iff.mp h1).1
    refine se_for (ie_p hI) (fun _ => E) i (Nat.le_of_lt hi) h0 (fun j x hj hx => ?_) (.inr ?_)
    · obtain ⟨e1, g1, _, g3⟩ := hs x (List.mem_of_getElem? hx)
      exact ⟨e1, g1, g3 (h3 j x hj hx)⟩
    · obtain ⟨e1, g1, g2, _⟩ := hs d (List.mem_of_getElem? h1)
      exact ⟨d, e1, h1, g1, .inl ⟨(hz d).1, (hz d).2.1, (hz d).2.2, g2 h2⟩⟩
theorem se_while {tb : TS} (Pv : En → Prop) (μ : En → Nat) (hs : ∀ e, Pv e → ∃ b, Te P w K t e b e ∧ (b = true → (∃ e', Pv e' ∧ μ e' < μ e ∧ Se P w K tb e (.nc e')) ∨ (o.fin = true ∧ (∀ e, o ≠ .bk e) ∧ (∀ e, o ≠ .ct e) ∧ Se P w K tb e o) ∨ ∃ e', o = .nx e' ∧ Se P w K tb e (.bk e')) ∧ (b = false → o = .nx e)) (h0 : Pv env) : Se P w K (tWhile t tb) env o := fun F0 H0 F H σ D S p => by
  refine ⟨fun m σ' H' => ∃ e F', Pv e ∧ μ e = m ∧ Ex F F' ∧ Sm P w K F0 H0 F' H' σ' e, ⟨_, env, F, h0, rfl, Ex.refl F, S⟩, ?_⟩
  rintro m σ' H' ⟨e, F', hP, rfl, ex, S'⟩
  obtain ⟨b, hb, h1, h2⟩ := hs e hP
  refine hb.2 F0 H0 F' H' σ' S' _ fun F1 H1 k S1 => ?_
  cases b with
  | true =>
    refine ⟨fun σ2 H2 => ∃ e2 F2, Pv e2 ∧ μ e2 < μ e ∧ Ex F F2 ∧ Sm P w K F0 H0 F2 H2 σ2 e2, fun σ2 H2 ⟨e2, F2, a, b, c, d⟩ => ⟨μ e2, b, e2, F2, a, rfl, c, d⟩, ?_⟩
    rcases h1 rfl with ⟨e', p1, p2, p3⟩ | ⟨ho, nb, nc, p3⟩ | ⟨e', rfl, p3⟩
    · exact p3 F0 H0 F1 H1 σ' _ S1 fun F4 H4 σ4 e4 S4 => ⟨⟨e', F4, p1, p2, (ex.trans k.f).trans e4, S4⟩, ⟨e', F4, p1, p2, (ex.trans k.f).trans e4, S4⟩⟩
    · refine p3 F0 H0 F1 H1 σ' _ S1 ?_
      have p' := p.ex (ex.trans k.f)
      cases o <;> first | exact p' | (cases ho; done) | exact absurd rfl (nb _) | exact absurd rfl (nc _)
    · exact p3 F0 H0 F1 H1 σ' _ S1 fun F4 H4 σ4 e4 S4 => p F4 H4 σ4 ((ex.trans k.f).trans e4) S4
  | false =>
    have := h2 rfl
    subst this
    exact p F1 H1 σ' (ex.trans k.f) S1
/-- targets of a comprehension: only the slots vs are stored, and the heap stays -/
def Gc (P : Program) (w : World) (K : PySem.W.Frag) (g : TG) (vs : List Nat) (d : Dt) (env env' : En) : Prop := ∀ F0 H0 F H (σ : L2.St) v, Sm P w K F0 H0 F H (L2.wipe σ vs) env → Rp K F d v → ∀ Q : L2.St → Hp → Prop, (∀ σ', L2.wipe σ' vs = L2.wipe σ vs → (∀ a, Own σ' env' a → Own (L2.wipe σ vs) env a) → Sm P w K F0 H0 F H σ' env' → Q σ' H) → g v (L2.wipe σ vs) H Q
theorem own_set {σ : L2.St} {j : Nat} {v : V} {a : Addr} (h : Own (σ.set j (some v)) (env.set j (.d d)) a) : Own σ env a := by
  obtain ⟨i, t, u, h1, h2⟩ := h
  rcases get_set h1 with ⟨_, z, _⟩ | ⟨ne, h1⟩
  · cases z
  · rw [set_ne ne] at h2
    exact ⟨i, t, u, h1, h2⟩
theorem own_unset {σ : L2.St} {j : Nat} {a : Addr} (h : Own (σ.set j none) (env.set j .u) a) : Own σ env a := by
  obtain ⟨i, t, u, h1, h2⟩ := h
  rcases get_set h1 with ⟨_, z, _⟩ | ⟨ne, h1⟩
  · cases z
  · rw [set_ne ne] at h2
    exact ⟨i, t, u, h1, h2⟩
theorem gc_name {j : Nat} : Gc P w K (gName j) [j] d env (env.set j (.d d)) := fun F0 H0 F H σ v S r Q q => q _ (by simp [L2.wipe, List.set_set]) (fun _ h => own_set h) (S.setD r)
def wipeE (e : En) : List Nat → En
  | [] => e
  | j :: r => (wipeE e r).set j .u
theorem Sm.wipe {F0 H0 F H : Hp} {σ : L2.St} {env : En} (S : Sm P w K F0 H0 F H σ env) : ∀ vs : List Nat, Sm P w K F0 H0 F H (L2.wipe σ vs) (wipeE env vs)
  | [] => S
  | j :: r => (Sm.wipe S r).setU j
theorem own_wipe {σ : L2.St} {env : En} {a : Addr} : ∀ {vs : List Nat}, Own (L2.wipe σ vs) (wipeE env vs) a → Own σ env a
  | [], h => h
  | j :: r, h => own_wipe (vs := r) (own_unset h)
/-- a list comprehension whose parts change nothing -/
theorem np_lcT {α : Type} {tt : TT} {vs : List Nat} (xs : List α) (dec : α → Dt) (hI : Ip P w K wi env (xs.map dec)) (hn : xs.length ≤ 40000) (p : α → Bool) (v : α → Dt)
    (hs : ∀ (i : Nat) (a : α), xs[i]? = some a → ∃ e1, Gc P w K g vs (dec a) (wipeE env vs) e1 ∧ Tp P w K tt e1 (p a) ∧ (p a = true → Ep P w K te e1 (v a))) : EpN P w K (tLc wi g tt te vs) env ((xs.filter p).map v) := fun F0 H0 F H σ S Q q =>
  hI F0 H0 F H σ S _ fun J F1 H1 k1 W D hD => by
    have nF : F1 D = none := none_sub k1.s hD
    have S1 := S.wk k1
    have n0 : H0 D = none := none_sub S1.g.h hD
    have nO : ¬ Own σ env D := S1.ownNew hD
    refine lc_it W (fun i H2 => ∃ F2 acc, Ex F1 F2 ∧ F2 D = none ∧ H2 D = some (.lst acc) ∧ RpL K F2 (((xs.take i).filter p).map v) acc ∧ Sm P w K F0 H0 F2 H2 σ env ∧ Ex H1 H2 ∧ (∀ a o, H1 a = some o → F1 a = none → F2 a = none))
      ⟨F1, [], Ex.refl F1, nF, upd_same, rfl, S1.upd _ nF n0 nO, Ex.new hD, fun _ _ _ n => n⟩ (fun i H2 _ h => ?_) (fun i x H2 H2' hi h y => ?_) (fun H2 h => ?_)
    · obtain ⟨F2, acc, e2, _, _, _, S2, _⟩ := h
      exact e2.trans S2.sub
    · obtain ⟨F2, acc, e2, d2, h2, r2, S2, x2, n2⟩ := h
      obtain ⟨F3, d', w3, hd', r3⟩ := y F2 e2 S2.sub
      rw [List.length_map] at hi
      rw [List.getElem?_map, List.getElem?_eq_getElem hi] at hd'
      obtain ⟨d, hd⟩ : ∃ d, xs[i]? = some d := ⟨_, List.getElem?_eq_getElem hi⟩
      have : d' = dec d := by
        rw [List.getElem?_eq_getElem hi] at hd
        cases hd
        exact (Option.some.inj hd').symm
      subst this
      obtain ⟨e1, hg, ht, he⟩ := hs i d hd
      have etake : xs.take (i + 1) = xs.take i ++ [d] := by
        rw [List.take_add_one, hd]
        rfl
      refine hg F0 H0 F3 H2' σ x ((S2.wk w3).wipe vs) r3 _ fun σ' hw _ S3 => ⟨hw, ?_⟩
      refine ht F0 H0 F3 H2' _ S3 _ fun F4 H4 w4 => ?_
      have hD4 : H4 D = some (.lst acc) := w4.h D _ (w3.h D _ h2)
      cases hp : p d with
      | true =>
        show te σ' H4 _
        refine he hp F0 H0 F4 H4 _ (S3.wk w4) _ fun vv F5 H5 w5 r5 => ?_
        have hD5 : H5 D = some (.lst acc) := w5.h D _ hD4
        have w35 : Wk F2 H2 F5 H5 := (w3.trans w4).trans w5
        have dF5 : F5 D = none := w35.n D _ h2 d2
        have hlen : acc.length < sizeLine := by
          rw [← r2.length, List.length_map]
          have h1 := List.length_filter_le p (xs.take i)
          have h2 : (xs.take i).length ≤ i := by simp; omega
          exact sz_lt (by omega)
        refine ⟨acc, hD5, hlen, F5, acc ++ [vv], e2.trans w35.f, dF5, upd_same, ?_, (S2.wk w35).upd _ dF5 n0 nO, fun a o h => ?_, fun a o h h' => w35.n a o (x2 a o h) (n2 a o h h')⟩
        · rw [etake, List.filter_append, List.map_append]
          refine RpL.append (r2.mono w35.f) ?_
          rw [List.filter_cons, if_pos hp]
          exact RpL.cons r5 RpL.nil
        · rw [upd_ne (ne_of_none h hD)]
          exact w35.h a o (x2 a o h)
      | false =>
        have w34 : Wk F2 H2 F4 H4 := w3.trans w4
        refine ⟨F4, acc, e2.trans w34.f, w34.n D _ h2 d2, hD4, ?_, S2.wk w34, x2.trans w34.h, fun a o h h' => w34.n a o (x2 a o h) (n2 a o h h')⟩
        rw [etake, List.filter_append, List.map_append, List.filter_cons, if_neg (by simp [hp])]
        show RpL K F4 (((xs.take i).filter p).map v ++ []) acc
        rw [List.append_nil]
        exact r2.mono w34.f
    · obtain ⟨F2, acc, e2, d2, h2, r2, S2, x2, n2⟩ := h
      rw [List.length_map, List.take_length] at r2
      exact q D acc F2 H2 (k1.trans ⟨e2, x2, S2.sub, n2⟩) (none_sub k1.h hD) d2 h2 r2
theorem np_lcG {tt : TT} {vs : List Nat} (hI : Ip P w K wi env ds) (hn : ds.length ≤ 40000) (p : Dt → Bool) (v : Dt → Dt)
    (hs : ∀ d ∈ ds, ∃ e1, Gc P w K g vs d (wipeE env vs) e1 ∧ Tp P w K tt e1 (p d) ∧ (p d = true → Ep P w K te e1 (v d))) : EpN P w K (tLc wi g tt te vs) env ((ds.filter p).map v) :=
  np_lcT ds id (by rw [List.map_id]; exact hI) hn p v fun i a h => hs a (List.mem_of_getElem? h)
theorem tp_yes : Tp P w K tYes env true := fun F0 H0 F H σ S Q q => q F H (Wk.refl S.sub)
theorem np_lc {tt : TT} {j : Nat} (hI : Ip P w K wi env ds) (hn : ds.length ≤ 40000) (p : Dt → Bool) (v : Dt → Dt) (ht : ∀ d ∈ ds, Tp P w K tt (env.set j (.d d)) (p d)) (he : ∀ d ∈ ds, p d = true → Ep P w K te (env.set j (.d d)) (v d)) :
    EpN P w K (tLc wi (gName j) tt te [j]) env ((ds.filter p).map v) := np_lcG hI hn p v fun d hd => ⟨_, gc_name, by rw [show wipeE env [j] = env.set j .u from rfl, List.set_set]; exact ⟨ht d hd, he d hd⟩⟩
theorem np_map {j : Nat} (hI : Ip P w K wi env ds) (hn : ds.length ≤ 40000) (v : Dt → Dt) (he : ∀ d ∈ ds, Ep P w K te (env.set j (.d d)) (v d)) : EpN P w K (tLc wi (gName j) tYes te [j]) env (ds.map v) := by
  have h := np_lc (te := te) (j := j) hI hn (fun _ => true) v (fun d _ => tp_yes) fun d hd _ => he d hd
  have e : ds.filter (fun _ => true) = ds := by simp
  rw [e] at h
  exact h
/-- .. over a typed list -/
theorem np_mapT {α : Type} {j : Nat} (xs : List α) (dec : α → Dt) (hI : Ip P w K wi env (xs.map dec)) (hn : xs.length ≤ 40000) (v : α → Dt) (he : ∀ (i : Nat) (a : α), xs[i]? = some a → Ep P w K te (env.set j (.d (dec a))) (v a)) : EpN P w K (tLc wi (gName j) tYes te [j]) env (xs.map v) := by
  have h := np_lcT (te := te) (vs := [j]) (g := gName j) (tt := tYes) xs dec hI hn (fun _ => true) v fun i a h => ⟨_, gc_name, tp_yes, fun _ => by rw [show wipeE env [j] = env.set j .u from rfl, List.set_set]; exact he i a h⟩
  have e : xs.filter (fun _ => true) = xs := by simp
  rw [e] at h
  exact h
end
end Qw
set_option maxHeartbeats 1000000
namespace Qw
open PySem PySem.Spec PyProof.Rows L2 Evl
open Pw (Dt Rp RpL Wk none_sub get_set set_same set_ne R2d R1d RLd RLn Kq KqL truD isEmpty_rp flatD fl py pyL rangeD rangeD_len charsD wl_at Wl wl_range rangeD_nat find_split itemD)
abbrev KD := List (Key × Dt)
abbrev dk (kvs : KD) : Dt := .dic (kvs.map Prod.fst) (kvs.map Prod.snd)
abbrev Ow.dk (kvs : KD) : Ow := .dic (kvs.map Prod.fst) (kvs.map Prod.snd)
def valD (kvs : KD) (k : Key) : Option Dt := (kvs.find? fun kv => decide (kv.1 = k)).map (·.2)
def putD (kvs : KD) (k : Key) (d : Dt) : KD := if (kvs.any fun kv => decide (kv.1 = k)) = true then kvs.map (fun kv => if kv.1 = k then (kv.1, d) else kv) else kvs ++ [(k, d)]
def kD : Key → Dt
  | .inl i => .int i
  | .inr x => .str x
theorem kD_rp {K : PySem.W.Frag} {F : Hp} {k : Key} {v : V} (h : Rp K F (kD k) v) : v = kV k := by cases k <;> exact h
section
variable {K : PySem.W.Frag} {F : Hp}
def PrD (K : PySem.W.Frag) (F : Hp) (kvs : KD) (q : List (Key × V)) : Prop := q.map Prod.fst = kvs.map Prod.fst ∧ RpL K F (kvs.map Prod.snd) (q.map Prod.snd)
theorem prD_of {kvs : KD} {vs : List V} (r : RpL K F (kvs.map Prod.snd) vs) : PrD K F kvs ((kvs.map Prod.fst).zip vs) := by
  have h := r.length
  refine ⟨?_, ?_⟩
  · rw [List.map_fst_zip]
    simpa using Nat.le_of_eq h
  · rw [List.map_snd_zip]
    · exact r
    · simpa using Nat.le_of_eq h.symm
theorem prD_zip {kvs : KD} {q : List (Key × V)} (h : PrD K F kvs q) : q = (kvs.map Prod.fst).zip (q.map Prod.snd) := by
  rw [← h.1]
  exact (List.zip_unzip q).symm.trans (by rw [List.unzip_eq_map])
theorem PrD.cons {k : Key} {d : Dt} {v : V} {kvs : KD} {q : List (Key × V)} (r : Rp K F d v) (h : PrD K F kvs q) : PrD K F ((k, d) :: kvs) ((k, v) :: q) := ⟨by simp [h.1], v, _, rfl, r, h.2⟩
theorem PrD.inv {p : Key × Dt} {kvs : KD} {q : List (Key × V)} (h : PrD K F (p :: kvs) q) : ∃ v q', q = (p.1, v) :: q' ∧ Rp K F p.2 v ∧ PrD K F kvs q' := by
  obtain ⟨h1, v, r, h2, h3, h4⟩ := h
  cases q with
  | nil => cases h2
  | cons a q =>
    cases h2
    simp only [List.map_cons, List.cons.injEq] at h1
    exact ⟨a.2, q, by rw [← h1.1], h3, h1.2, h4⟩
theorem PrD.nil {q : List (Key × V)} (h : PrD K F [] q) : q = [] := by
  obtain ⟨h1, _⟩ := h
  simpa using h1
theorem PrD.val : ∀ {kvs : KD} {q : List (Key × V)} (k : Key), PrD K F kvs q → (valD kvs k = none ∧ valV q k = none) ∨ ∃ d v, valD kvs k = some d ∧ valV q k = some v ∧ Rp K F d v
  | [], q, k, h => by
    rw [h.nil]
    exact .inl ⟨rfl, rfl⟩
  | p :: kvs, q, k, h => by
    obtain ⟨v, q', rfl, r, t⟩ := h.inv
    by_cases e : p.1 = k
    · exact .inr ⟨p.2, v, by simp [valD, List.find?_cons, e], by rw [valV_pos e], r⟩
    · rw [valV_neg e, show valD (p :: kvs) k = valD kvs k by simp [valD, List.find?_cons, e]]
      exact PrD.val k t
theorem PrD.any (k : Key) : ∀ {kvs : KD} {q : List (Key × V)}, PrD K F kvs q → (kvs.any fun kv => decide (kv.1 = k)) = (q.any fun kv => decide (kv.1 = k))
  | [], q, h => by rw [h.nil]; rfl
  | p :: kvs, q, h => by
    obtain ⟨v, q', rfl, r, t⟩ := h.inv
    rw [List.any_cons, List.any_cons, PrD.any k t]
theorem PrD.over {d : Dt} {v : V} (k : Key) (r : Rp K F d v) : ∀ {kvs : KD} {q : List (Key × V)}, PrD K F kvs q → PrD K F (kvs.map fun kv => if kv.1 = k then (kv.1, d) else kv) (q.map fun kv => if kv.1 = k then (kv.1, v) else kv)
  | [], q, h => by rw [h.nil]; exact ⟨rfl, rfl⟩
  | p :: kvs, q, h => by
    obtain ⟨u, q', rfl, r', t⟩ := h.inv
    simp only [List.map_cons]
    by_cases e : p.1 = k
    · rw [if_pos e, if_pos e]
      exact .cons r (PrD.over k r t)
    · rw [if_neg e, if_neg e]
      exact .cons r' (PrD.over k r t)
theorem PrD.put {kvs : KD} {q : List (Key × V)} {d : Dt} {v : V} (k : Key) (h : PrD K F kvs q) (r : Rp K F d v) : PrD K F (putD kvs k d) (putK q k v) := by
  unfold putD putK
  rw [h.any k]
  split
  · exact PrD.over k r h
  · refine ⟨by simp [h.1], ?_⟩
    rw [List.map_append, List.map_append]
    exact RpL.append h.2 ⟨v, [], rfl, r, rfl⟩
theorem PrD.mono {F' : Hp} {kvs : KD} {q : List (Key × V)} (e : Ex F F') (h : PrD K F kvs q) : PrD K F' kvs q := ⟨h.1, h.2.mono e⟩
theorem PrD.length {kvs : KD} {q : List (Key × V)} (h : PrD K F kvs q) : kvs.length = q.length := by
  have := congrArg List.length h.1
  simpa using this.symm
end
section
variable {P : Program} {w : World} {K : PySem.W.Frag} {env env1 env2 env3 : En} {ta tb td ty te tc tl : TE} {t u : TT} {d e z : Dt} {s s1 s2 : TS} {o : Out} {g : TG} {tA : TA} {ds : List Dt} {wi : TI} {kvs : KD} {k : Key}
theorem dk_at {F : Hp} {v : V} (h : Rp K F (dk kvs) v) : ∃ a q, v = .ref a ∧ F a = some (.dK q) ∧ PrD K F kvs q := by
  obtain ⟨a, vs, rfl, h1, h2, h3⟩ := h
  exact ⟨a, _, rfl, h1, prD_of h3⟩
theorem odk_at {F : Hp} {a : Addr} {ho : HO} (h : OwOk P w K F a (.dk kvs) ho) : ∃ q, ho = .dK q ∧ PrD K F kvs q := by
  obtain ⟨vs, rfl, h2, h3⟩ := h
  exact ⟨_, rfl, prD_of h3⟩
theorem odk_of {F : Hp} {a : Addr} {q : List (Key × V)} (h : PrD K F kvs q) : OwOk P w K F a (.dk kvs) (.dK q) := ⟨q.map Prod.snd, by rw [← prD_zip h], by simpa using h.length, h.2⟩
theorem dgetR {H : Hp} {a : Addr} {q : List (Key × V)} {k : Key} (h : Rd H a (.dK q)) : DGet H a (kV k) (valV q k) := .inl ⟨q, k, h, rfl, rfl⟩
/-- an expression that gives a dict: data, or one's own; it may be locked -/
def Edk (P : Program) (w : World) (K : PySem.W.Frag) (te : TE) (env : En) (kvs : KD) : Prop := ∀ F0 H0 F H σ, Sm P w K F0 H0 F H σ env → ∀ Q : VK, (∀ a q F' H', Wk F H F' H' → (∀ F2 H2, Wk F' H' F2 H2 → Rd H2 a (.dK q)) → PrD K F' kvs q → Q (.ref a) H') → te σ H Q
theorem edk_d (h : Ep P w K te env (dk kvs)) : Edk P w K te env kvs := fun F0 H0 F H σ S Q q => h F0 H0 F H σ S Q fun v F1 H1 k1 r => by
  obtain ⟨a, qs, rfl, h1, h2⟩ := dk_at r
  exact q a qs F1 H1 k1 (fun F2 H2 k2 => .inl (k2.h a _ (k1.s a _ h1))) h2
theorem edk_o {i : Nat} {t' : Option Addr} (hi : env[i]? = some (.ow t' (.dk kvs)) := by rfl) : Edk P w K (tVar i) env kvs := fun F0 H0 F H σ S Q q => by
  obtain ⟨a, ho, e1, _, g1, g2, g3, g4⟩ := S.own hi
  obtain ⟨qs, rfl, h2⟩ := odk_at g4
  exact ⟨_, e1, q a qs F H (Wk.refl S.sub) (fun F2 H2 k2 => .inl (k2.h a _ g3)) h2⟩
theorem ep_dget (h : Edk P w K td env kvs) (hk : Ep P w K ty env (kD k)) (hv : valD kvs k = some d) : Ep P w K (tDGet td ty) env d := fun F0 H0 F H σ S Q q =>
  h F0 H0 F H σ S _ fun a qs F1 H1 k1 st r => hk F0 H0 F1 H1 σ (S.wk k1) _ fun y F2 H2 k2 r2 => by
    rcases r.val k with ⟨z, _⟩ | ⟨d', v, e1, e2, r3⟩
    · rw [hv] at z; cases z
    · rw [hv] at e1
      cases e1
      rw [kD_rp r2]
      exact ⟨a, v, rfl, by rw [← e2]; exact dgetR (st F2 H2 k2), q v F2 H2 (k1.trans k2) (r3.mono k2.f)⟩
theorem ep_din (h : Edk P w K td env kvs) (hk : Ep P w K ty env (kD k)) : Ep P w K (tDIn ty td) env (.bl (valD kvs k).isSome) := fun F0 H0 F H σ S Q q =>
  hk F0 H0 F H σ S _ fun y F1 H1 k1 r1 => h F0 H0 F1 H1 σ (S.wk k1) _ fun a qs F2 H2 k2 st r => by
    rw [kD_rp r1]
    refine ⟨a, _, rfl, dgetR (st F2 H2 (Wk.refl k2.s)), ?_⟩
    have e : (valV qs k).isSome = (valD kvs k).isSome := by
      rcases r.val k with ⟨e1, e2⟩ | ⟨d', v, e1, e2, _⟩ <;> rw [e1, e2] <;> rfl
    rw [e]
    exact q _ F2 H2 (k1.trans k2) rfl
theorem ep_dni (h : Edk P w K td env kvs) (hk : Ep P w K ty env (kD k)) : Ep P w K (tDNotIn ty td) env (.bl (!(valD kvs k).isSome)) := fun F0 H0 F H σ S Q q =>
  hk F0 H0 F H σ S _ fun y F1 H1 k1 r1 => h F0 H0 F1 H1 σ (S.wk k1) _ fun a qs F2 H2 k2 st r => by
    rw [kD_rp r1]
    refine ⟨a, _, rfl, dgetR (st F2 H2 (Wk.refl k2.s)), ?_⟩
    have e : (valV qs k).isSome = (valD kvs k).isSome := by
      rcases r.val k with ⟨e1, e2⟩ | ⟨d', v, e1, e2, _⟩ <;> rw [e1, e2] <;> rfl
    rw [e]
    exact q _ F2 H2 (k1.trans k2) rfl
/-- d.get(k, x), the dict data or one's own, k and x perhaps changing other things -/
theorem ee_dget2 (hk : Ee P w K ty env (kD k) env1) (hx : Ep P w K te env1 e) (hd : Ep P w K td env (dk kvs)) : Ee P w K (tDGet2 td ty te) env ((valD kvs k).getD e) env1 := ⟨hk.1, fun F0 H0 F H σ S Q q =>
  hd F0 H0 F H σ S _ fun v F1 H1 k1 r => by
    obtain ⟨a, qs, rfl, h1, h2⟩ := dk_at r
    refine ⟨a, rfl, .inl ⟨qs, .inl (k1.s a _ h1)⟩, hk.2 F0 H0 F1 H1 σ (S.wk k1) _ fun y F2 H2 k2 S2 r2 => hx F0 H0 F2 H2 σ S2 _ fun x F3 H3 k3 r3 => ?_⟩
    rw [kD_rp r2]
    refine ⟨_, DGet.k (k3.s a _ (k3.f _ _ (k2.f _ _ h1))), ?_⟩
    have w1 : Wo σ env F H F3 H3 := (Wo.of k1).trans Sh.refl (k2.trans hk.1 (.of k3))
    rcases h2.val k with ⟨e1, e2⟩ | ⟨d', v, e1, e2, r4⟩
    · rw [e2]
      rw [e1] at q
      exact q x F3 H3 w1 (S2.wk k3) r3
    · rw [e2]
      rw [e1] at q
      exact q v F3 H3 w1 (S2.wk k3) (r4.mono (k2.f.trans k3.f))⟩
theorem ep_dget2 (h : Edk P w K td env kvs) (hk : Ep P w K ty env (kD k)) (hx : Ep P w K te env e) : Ep P w K (tDGet2 td ty te) env ((valD kvs k).getD e) := fun F0 H0 F H σ S Q q =>
  h F0 H0 F H σ S _ fun a qs F1 H1 k1 st h2 => by
    refine ⟨a, rfl, .inl ⟨qs, st F1 H1 (Wk.refl k1.s)⟩, hk F0 H0 F1 H1 σ (S.wk k1) _ fun y F2 H2 k2 r2 => hx F0 H0 F2 H2 σ ((S.wk k1).wk k2) _ fun x F3 H3 k3 r3 => ?_⟩
    rw [kD_rp r2]
    refine ⟨_, dgetR (st F3 H3 (k2.trans k3)), ?_⟩
    rcases h2.val k with ⟨e1, e2⟩ | ⟨d', v, e1, e2, r4⟩
    · rw [e2]
      rw [e1] at q
      exact q x F3 H3 ((k1.trans k2).trans k3) r3
    · rw [e2]
      rw [e1] at q
      exact q v F3 H3 ((k1.trans k2).trans k3) (r4.mono (k2.f.trans k3.f))
/-- d[k] = v -/
theorem se_dput {i : Nat} {t' : Option Addr} (hv : Ee P w K te env d env1) (hk : Ep P w K ty env1 (kD k)) (hi : env1[i]? = some (.ow t' (.dk kvs)) := by rfl) (hz : kvs.length < 100000) : Se P w K (sDPut (tVar i) ty te) env (.nx (env1.set i (.ow t' (.dk (putD kvs k d))))) := fun F0 H0 F H σ D S p =>
  hv.2 F0 H0 F H σ S _ fun v F1 H1 k1 S1 r1 => by
    obtain ⟨a, ho, e1, _, g1, g2, g3, g4⟩ := S1.own hi
    refine ⟨_, e1, hk F0 H0 F1 H1 σ S1 _ fun y F2 H2 k2 r2 => ?_⟩
    obtain ⟨qs, rfl, h2⟩ := odk_at g4
    rw [kD_rp r2]
    exact ⟨a, _, rfl, DPut.k (k2.h a _ g3) (sz_lt (by rw [← h2.length]; exact hz)), p F2 _ σ (k1.f.trans k2.f) ((S1.wk k2).mut hi e1 (odk_of ((h2.mono k2.f).put k (r1.mono k2.f))))⟩
theorem po_dnew : EpO P w K tDNewK env (.dk []) := fun F0 H0 F H σ S Q q p hp => q p _ F (L2.upd H p (.dK [])) (Wk.own S.sub _ hp) hp (none_sub S.sub hp) upd_same (odk_of ⟨rfl, rfl⟩)
/-- {k: v for ..} -/
theorem po_dc {α : Type} {tt : TT} {vs : List Nat} (xs : List α) (dec : α → Dt) (hI : Ip P w K wi env (xs.map dec)) (hn : xs.length ≤ 40000) (p : α → Bool) (kf : α → Key) (vf : α → Dt)
    (hs : ∀ (i : Nat) (a : α), xs[i]? = some a → ∃ e1, Gc P w K g vs (dec a) (wipeE env vs) e1 ∧ Tp P w K tt e1 (p a) ∧ (p a = true → Ep P w K ty e1 (kD (kf a)) ∧ Ep P w K te e1 (vf a))) : EpO P w K (tDc wi g tt ty te vs) env (.dk ((xs.filter p).foldl (fun q a => putD q (kf a) (vf a)) [])) := fun F0 H0 F H σ S Q q =>
  hI F0 H0 F H σ S _ fun J F1 H1 k1 W D hD => by
    have nF : F1 D = none := none_sub k1.s hD
    have S1 := S.wk k1
    have n0 : H0 D = none := none_sub S1.g.h hD
    have nO : ¬ Own σ env D := S1.ownNew hD
    have small : ∀ (l : List α) (q : KD), (l.foldl (fun q a => putD q (kf a) (vf a)) q).length ≤ q.length + l.length := by
      intro l
      induction l with
      | nil => intro q; exact Nat.le_refl _
      | cons a l ih =>
        intro q
        have h1 : (putD q (kf a) (vf a)).length ≤ q.length + 1 := by
          unfold putD
          split <;> simp
        have := ih (putD q (kf a) (vf a))
        simp only [List.foldl_cons, List.length_cons]
        omega
    refine ⟨fun i m H2 => m = xs.length - i ∧ i ≤ xs.length ∧ ∃ F2 acc, Ex F1 F2 ∧ F2 D = none ∧ H2 D = some (.dK acc) ∧ PrD K F2 (((xs.take i).filter p).foldl (fun q a => putD q (kf a) (vf a)) []) acc ∧ Sm P w K F0 H0 F2 H2 σ env ∧ Ex H1 H2 ∧ (∀ a o, H1 a = some o → F1 a = none → F2 a = none),
      ⟨xs.length, by simp, Nat.zero_le _, F1, [], Ex.refl F1, nF, upd_same, ⟨rfl, rfl⟩, S1.upd _ nF n0 nO, Ex.new hD, fun _ _ _ n => n⟩, ?_⟩
    rintro i m H2 ⟨rfl, hi, F2, acc, e2, d2, h2, r2, S2, x2, n2⟩
    have W' := W
    unfold Wl at W'
    rw [List.length_map] at W'
    by_cases hlt : i < xs.length
    · refine .inr ⟨W'.goes i H2 hlt (e2.trans S2.sub), fun H' => ∃ F2 acc, Ex F1 F2 ∧ F2 D = none ∧ H' D = some (.dK acc) ∧ PrD K F2 (((xs.take (i + 1)).filter p).foldl (fun q a => putD q (kf a) (vf a)) []) acc ∧ Sm P w K F0 H0 F2 H' σ env ∧ Ex H1 H' ∧ (∀ a o, H1 a = some o → F1 a = none → F2 a = none), fun H' q => ⟨xs.length - (i + 1), by omega, rfl, hlt, q⟩, fun x H2' y => ?_⟩
      obtain ⟨F3, d', w3, hd', r3⟩ := W'.yields i H2 x H2' hlt (e2.trans S2.sub) y F2 e2 S2.sub
      rw [List.getElem?_map, List.getElem?_eq_getElem hlt] at hd'
      obtain ⟨a, ha⟩ : ∃ a, xs[i]? = some a := ⟨_, List.getElem?_eq_getElem hlt⟩
      have : d' = dec a := by
        rw [List.getElem?_eq_getElem hlt] at ha
        cases ha
        exact (Option.some.inj hd').symm
      subst this
      obtain ⟨e1, hg, ht, he⟩ := hs i a ha
      have etake : xs.take (i + 1) = xs.take i ++ [a] := by
        rw [List.take_add_one, ha]
        rfl
      refine hg F0 H0 F3 H2' σ x ((S2.wk w3).wipe vs) r3 _ fun σ' hw _ S3 => ⟨hw, ?_⟩
      refine ht F0 H0 F3 H2' _ S3 _ fun F4 H4 w4 => ?_
      have hD4 : H4 D = some (.dK acc) := w4.h D _ (w3.h D _ h2)
      rw [etake, List.filter_append, List.foldl_append]
      cases hp : p a with
      | true =>
        show ty σ' H4 _
        obtain ⟨he1, he2⟩ := he hp
        refine he1 F0 H0 F4 H4 _ (S3.wk w4) _ fun yv F5 H5 w5 r5 => he2 F0 H0 F5 H5 _ ((S3.wk w4).wk w5) _ fun vv F6 H6 w6 r6 => ?_
        have hD6 : H6 D = some (.dK acc) := w6.h D _ (w5.h D _ hD4)
        have w36 : Wk F2 H2 F6 H6 := ((w3.trans w4).trans w5).trans w6
        have dF6 : F6 D = none := w36.n D _ h2 d2
        rw [kD_rp r5]
        refine ⟨acc, kf a, rfl, hD6, ?_, F6, _, e2.trans w36.f, dF6, upd_same, ?_, (S2.wk w36).upd _ dF6 n0 nO, fun a o h => ?_, fun a o h h' => w36.n a o (x2 a o h) (n2 a o h h')⟩
        · rw [← r2.length]
          have h1 := small ((xs.take i).filter p) []
          have h3 := List.length_filter_le p (xs.take i)
          have h4 : (xs.take i).length ≤ i := by simp; omega
          simp only [List.length_nil] at h1
          exact sz_lt (by omega)
        · rw [List.filter_cons, if_pos hp]
          exact (r2.mono w36.f).put _ r6
        · rw [upd_ne (ne_of_none h hD)]
          exact w36.h a o (x2 a o h)
      | false =>
        have w34 : Wk F2 H2 F4 H4 := w3.trans w4
        refine ⟨F4, acc, e2.trans w34.f, w34.n D _ h2 d2, hD4, ?_, S2.wk w34, x2.trans w34.h, fun a o h h' => w34.n a o (x2 a o h) (n2 a o h h')⟩
        rw [List.filter_cons, if_neg (by simp [hp])]
        exact r2.mono w34.f
    · have e : i = xs.length := by omega
      subst e
      rw [List.take_length] at r2
      exact .inl ⟨W'.stops H2 (e2.trans S2.sub), q D _ F2 H2 (k1.trans ⟨e2, x2, S2.sub, n2⟩) (none_sub k1.h hD) d2 h2 (odk_of r2)⟩
end
end Qw
set_option maxHeartbeats 1000000
namespace Qw
open PySem PySem.Spec PyProof.Rows L2 Evl
open Pw (Dt Rp RpL Wk none_sub get_set set_same set_ne R2d R1d RLd RLn Kq KqL truD isEmpty_rp flatD fl py pyL rangeD rangeD_len charsD wl_at Wl wl_range rangeD_nat find_split itemD spX2 Xm Xm0)
/-- the def x of the text stands behind the top as st tells it -/
def Dx (K : PySem.W.Frag) (mg : Str → Option Value) (x : Str) (ps : List Str) (st : Stmt) : Prop :=
  ∃ f fd, mg x = some (.ref f) ∧ FunD K x x (defArgs st) (defBody st) (defScope st) [] [] f fd ∧ Binds K fd ps []
/-- x is called by name and keeps sp; it may raise as sp tells -/
def Fx (P : Program) (w : World) (K : PySem.W.Frag) (mg : Str → Option Value) (base : Heap) (k : Nat) (x : Str) (ps : List Str) (sp : Sp) : Prop :=
  ∃ f fd, mg x = some (.ref f) ∧ PySem.W.keepIn K (.ref f) = true ∧ Binds K fd ps [] ∧ FnOk P w K mg base (L2.CX P w) k f fd ps sp
/-- a method's def, of the class at C, its full name q -/
def Dm (K : PySem.W.Frag) (C : Addr) (m q : Str) (ps : List Str) (st : Stmt) : Prop :=
  ∃ f fd, Meth K C m f ∧ FunD K m q (defArgs st) (defBody st) (defScope st) [] [] f fd ∧ Binds K fd ps []
def Mx (P : Program) (w : World) (K : PySem.W.Frag) (mg : Str → Option Value) (base : Heap) (k : Nat) (C : Addr) (m : Str) (ps : List Str) (sp : Sp) : Prop :=
  ∃ f fd, Meth K C m f ∧ Binds K fd ps [] ∧ FnOk P w K mg base (L2.CX P w) k f fd ps sp
/-- the __init__ of the class x at C -/
def Di (K : PySem.W.Frag) (mg : Str → Option Value) (C : Addr) (x q : Str) (ps : List Str) (st : Stmt) : Prop :=
  ∃ f fd, mg x = some (.ref C) ∧ Mk K C f ∧ FunD K "__init__" q (defArgs st) (defBody st) (defScope st) [] [] f fd ∧ Binds K fd ps []
def Ix (P : Program) (w : World) (K : PySem.W.Frag) (mg : Str → Option Value) (base : Heap) (k : Nat) (C : Addr) (x : Str) (ps : List Str) (sp : Sp) : Prop :=
  ∃ f fd, mg x = some (.ref C) ∧ Mk K C f ∧ Binds K fd ps [] ∧ FnOk P w K mg base (L2.CX P w) k f fd ps sp
section
variable {P : Program} {w : World} {K : PySem.W.Frag} {mg : Str → Option Value} {base : Heap} {R : List Dt → Rs → Prop}
theorem Fx.mono {j k : Nat} {x : Str} {ps : List Str} {sp : Sp} (F : Fx P w K mg base j x ps sp) (h : j ≤ k) : Fx P w K mg base k x ps sp := by
  obtain ⟨f, fd, h1, h2, h3, h4⟩ := F
  exact ⟨f, fd, h1, h2, h3, h4.mono h⟩
theorem Fx.imp {k : Nat} {x : Str} {ps : List Str} {sp sp' : Sp} (F : Fx P w K mg base k x ps sp) (h : ∀ vs H Q E, sp' vs H Q E → sp vs H Q E) : Fx P w K mg base k x ps sp' := by
  obtain ⟨f, fd, h1, h2, h3, h4⟩ := F
  exact ⟨f, fd, h1, h2, h3, h4.imp h⟩
/-- THE RULE: a def that raises nothing -/
theorem Fx.of {x : Str} {ps N : List Str} {st : Stmt} {k : Nat} (D : Dx K mg x ps st) (S : FnScope N ps (defScope st)) (hl : ∀ ds r, R ds r → ds.length = ps.length)
    (hb : ∀ (f : Addr) (cdv : Value) (A : Around) (outer : List Env) (s : Shared) (H : Hp) (E : XK), Room k (A.deeper (envOfC x (defScope st) s.heap.objs.size f cdv)) →
      ∃ t, PSs (cxOf (L2.CX P w) P w K mg base N x (defScope st) f cdv A outer s H E).nox (defBody st) t ∧ ∀ ds r, R ds r → Does P w K E t (ds.map Sl.d ++ List.replicate (N.length - ds.length) Sl.u) r) :
    Fx P w K mg base (k + 1) x ps (spR P w K R) := by
  obtain ⟨f, fd, h1, F, h3⟩ := D
  refine ⟨f, fd, h1, F.kp, h3, F.ok S (fun vs H Q E h => spR_len hl vs H Q E h) fun cdv A outer s H vs Q E hr h => ?_⟩
  obtain ⟨t, ht, hs⟩ := hb f cdv A outer s H E hr
  exact ⟨t, PSs.nox ht, run_r h hs⟩
/-- .. a def that may raise -/
theorem Fx.ofX {x : Str} {ps N : List Str} {st : Stmt} {k : Nat} (D : Dx K mg x ps st) (S : FnScope N ps (defScope st)) (hl : ∀ ds r, R ds r → ds.length = ps.length)
    (hb : ∀ (f : Addr) (cdv : Value) (A : Around) (outer : List Env) (s : Shared) (H : Hp) (E : XK), Room k (A.deeper (envOfC x (defScope st) s.heap.objs.size f cdv)) →
      Takes (cxOf (L2.CX P w) P w K mg base N x (defScope st) f cdv A outer s H E) (fun cls d _ H => E cls d H) →
      ∃ t, PSs (cxOf (L2.CX P w) P w K mg base N x (defScope st) f cdv A outer s H E) (defBody st) t ∧ ∀ ds r, R ds r → Does P w K E t (ds.map Sl.d ++ List.replicate (N.length - ds.length) Sl.u) r) :
    Fx P w K mg base (k + 1) x ps (spR P w K R) := by
  obtain ⟨f, fd, h1, F, h3⟩ := D
  refine ⟨f, fd, h1, F.kp, h3, F.ok S (fun vs H Q E h => spR_len hl vs H Q E h) fun cdv A outer s H vs Q E hr h => ?_⟩
  obtain ⟨t, ht, hs⟩ := hb f cdv A outer s H E hr (takes_of rfl rfl rfl rfl)
  exact ⟨t, ht, run_r h hs⟩
/-- .. any promise -/
theorem Fx.ofSp {x : Str} {ps N : List Str} {st : Stmt} {k : Nat} {sp : Sp} (D : Dx K mg x ps st) (S : FnScope N ps (defScope st)) (hl : ∀ vs H Q E, sp vs H Q E → vs.length = ps.length)
    (hb : ∀ (f : Addr) (cdv : Value) (A : Around) (outer : List Env) (s : Shared) (H : Hp) (E : XK), Room k (A.deeper (envOfC x (defScope st) s.heap.objs.size f cdv)) →
      ∃ t, PSs (cxOf (L2.CX P w) P w K mg base N x (defScope st) f cdv A outer s H E).nox (defBody st) t ∧ ∀ vs Q, sp vs H Q E → t { nx := fun _ H' => Q .non H', rt := Q } (L2.start N vs) H) :
    Fx P w K mg base (k + 1) x ps sp := by
  obtain ⟨f, fd, h1, F, h3⟩ := D
  refine ⟨f, fd, h1, F.kp, h3, F.ok S hl fun cdv A outer s H vs Q E hr h => ?_⟩
  obtain ⟨t, ht, hs⟩ := hb f cdv A outer s H E hr
  exact ⟨t, PSs.nox ht, hs vs Q h⟩
theorem Mx.of {C : Addr} {m q : Str} {ps N : List Str} {st : Stmt} {k : Nat} (D : Dm K C m q ps st) (S : FnScope N ps (defScope st)) (hl : ∀ ds r, R ds r → ds.length = ps.length)
    (hb : ∀ (f : Addr) (cdv : Value) (A : Around) (outer : List Env) (s : Shared) (H : Hp) (E : XK), Room k (A.deeper (envOfC q (defScope st) s.heap.objs.size f cdv)) →
      ∃ t, PSs (cxOf (L2.CX P w) P w K mg base N q (defScope st) f cdv A outer s H E).nox (defBody st) t ∧ ∀ ds r, R ds r → Does P w K E t (ds.map Sl.d ++ List.replicate (N.length - ds.length) Sl.u) r) :
    Mx P w K mg base (k + 1) C m ps (spR P w K R) := by
  obtain ⟨f, fd, h1, F, h3⟩ := D
  refine ⟨f, fd, h1, h3, F.ok S (fun vs H Q E h => spR_len hl vs H Q E h) fun cdv A outer s H vs Q E hr h => ?_⟩
  obtain ⟨t, ht, hs⟩ := hb f cdv A outer s H E hr
  exact ⟨t, PSs.nox ht, run_r h hs⟩
theorem Mx.mono {j k : Nat} {C : Addr} {m : Str} {ps : List Str} {sp : Sp} (F : Mx P w K mg base j C m ps sp) (h : j ≤ k) : Mx P w K mg base k C m ps sp := by
  obtain ⟨f, fd, h1, h3, h4⟩ := F
  exact ⟨f, fd, h1, h3, h4.mono h⟩
/-- the promise of an __init__: what it is given, the fields it stores (in their order), or what it raises -/
inductive Ri where
  | f (fs : List Str) (ds : List Dt) | x (x : Xn)
def spI (P : Program) (w : World) (K : PySem.W.Frag) (C : Addr) (R : List Dt → Ri → Prop) : Sp := fun vs H Q E => ∃ F p dx vs' ds r, vs = .ref p :: vs' ∧ Ex F H ∧ F p = none ∧ H p = some (.ins C dx []) ∧ RpL K F ds vs' ∧ R ds r ∧ (match r with
  | .f fs es => ∀ F' H' o, Ex F F' → Ex F' H' → (∀ a z, a ≠ p → H a = some z → H' a = some z) → (∀ a z, H a = some z → F a = none → F' a = none) → H' p = some o → OwOk P w K F' p (.ins C fs es) o → Q .non H'
  | .x y => ∀ od F' H', Ex F F' → Ex F' H' → (∀ a z, a ≠ p → H a = some z → H' a = some z) → (∀ a z, a ≠ p → H a = some z → F a = none → F' a = none) → XnOk K F' y od → E (.ref y.C) od H')
/-- H without p -/
def hide (H : Hp) (p : Addr) : Hp := fun a => if a = p then none else H a
theorem hide_same {H : Hp} {p : Addr} : hide H p p = none := if_pos rfl
theorem hide_ne {H : Hp} {p a : Addr} (h : a ≠ p) : hide H p a = H a := if_neg h
theorem hide_ex {H : Hp} {p : Addr} : Ex (hide H p) H := fun a u e => by
  by_cases z : a = p
  · subst z
    rw [hide_same] at e
    cases e
  · rwa [hide_ne z] at e
theorem ex_hide {F H : Hp} {p : Addr} (e : Ex F H) (h : F p = none) : Ex F (hide H p) := fun a u z => by
  rw [hide_ne (ne_of_none z h)]
  exact e a u z
/-- a body whose first slot is a thing of one's own at p -/
theorem Sm.startO {F H : Hp} {ds : List Dt} {vs : List V} {N : List Str} {p : Addr} {u : Ow} {o : HO} (e : Ex F H) (hF : F p = none) (hp : H p = some o) (ho : OwOk P w K F p u o) (r : RpL K F ds vs) :
    Sm P w K F (hide H p) F H (L2.start N (.ref p :: vs)) (Sl.ow (some p) u :: (ds.map Sl.d ++ List.replicate (N.length - (ds.length + 1)) Sl.u)) := by
  have hl := r.length
  have base : Sm P w K F (hide H p) F (hide H p) (List.map some vs ++ List.replicate (N.length - (ds.length + 1)) none) (ds.map Sl.d ++ List.replicate (N.length - (ds.length + 1)) Sl.u) := by
    refine ⟨ex_hide e hF, Wk.refl (ex_hide e hF), by simp [hl], fun i s h => ?_, fun i j t t' u u' q ne e1 e2 _ => ?_⟩
    · by_cases hi : i < ds.length
      · rw [List.getElem?_append_left (by simpa using hi), List.getElem?_map] at h
        cases q : ds[i]? with
        | none => rw [q] at h; cases h
        | some d =>
          rw [q] at h
          cases h
          obtain ⟨v, h1, h2⟩ := r.get q
          exact ⟨some v, by rw [List.getElem?_append_left (by simp; omega), List.getElem?_map, h1]; rfl, v, rfl, h2⟩
      · rw [List.getElem?_append_right (by simpa using hi), List.length_map, List.getElem?_replicate] at h
        split at h
        · rename_i lt
          cases h
          exact ⟨none, by rw [List.getElem?_append_right (by simp; omega), List.length_map, List.getElem?_replicate, if_pos (by omega)], rfl⟩
        · cases h
    · by_cases hi : i < ds.length
      · rw [List.getElem?_append_left (by simpa using hi), List.getElem?_map] at e1
        cases q : ds[i]? <;> rw [q] at e1 <;> cases e1
      · rw [List.getElem?_append_right (by simpa using hi), List.length_map, List.getElem?_replicate] at e1
        split at e1 <;> cases e1
  refine ⟨ex_hide e hF, ⟨Ex.refl F, hide_ex, e, fun _ _ _ h => h⟩, by simp [L2.start, hl], fun i s h => ?_, fun i j t t' u1 u2 q ne e1 e2 h1 h2 => ?_⟩
  · cases i with
    | zero =>
      cases h
      exact ⟨_, rfl, p, o, rfl, (fun q z => Option.some.inj z), hF, hide_same, hp, ho⟩
    | succ i =>
      obtain ⟨v, h1, h2⟩ := base.sl i s (by simpa using h)
      refine ⟨v, by simp only [L2.start, List.length_cons, List.map_cons, List.cons_append, List.getElem?_cons_succ]; rw [← hl]; exact h1, ?_⟩
      cases s with
      | x => trivial
      | u => exact h2
      | d d => exact h2
      | ex a od y => exact h2
      | lk y x => exact h2
      | ow t' u' =>
        exfalso
        by_cases hi : i < ds.length
        · rw [List.getElem?_cons_succ, List.getElem?_append_left (by simpa using hi), List.getElem?_map] at h
          cases q : ds[i]? <;> rw [q] at h <;> cases h
        · rw [List.getElem?_cons_succ, List.getElem?_append_right (by simpa using hi), List.length_map, List.getElem?_replicate] at h
          split at h <;> cases h
  · have no : ∀ (k : Nat) (t : Option Addr) (u' : Ow), (Sl.ow (some p) u :: (ds.map Sl.d ++ List.replicate (N.length - (ds.length + 1)) Sl.u))[k]? = some (.ow t u') → k = 0 := by
      intro k t u' h
      cases k with
      | zero => rfl
      | succ k =>
        exfalso
        by_cases hi : k < ds.length
        · rw [List.getElem?_cons_succ, List.getElem?_append_left (by simpa using hi), List.getElem?_map] at h
          cases q : ds[k]? <;> rw [q] at h <;> cases h
        · rw [List.getElem?_cons_succ, List.getElem?_append_right (by simpa using hi), List.length_map, List.getElem?_replicate] at h
          split at h <;> cases h
    exact ne ((no i _ _ e1).trans (no j _ _ e2).symm)
end
end Qw
set_option maxHeartbeats 1000000
namespace Qw
open PySem PySem.Spec PyProof.Rows L2 Evl
open Pw (Dt Rp RpL Wk none_sub get_set set_same set_ne R2d R1d RLd RLn Kq KqL truD isEmpty_rp flatD fl py pyL rangeD rangeD_len charsD wl_at Wl wl_range rangeD_nat find_split itemD spX2 Xm Xm0 zip_lookup)
section
variable {P : Program} {w : World} {K : PySem.W.Frag} {mg : Str → Option Value} {base : Heap} {env env1 env2 : En} {ta tb te tv : TE} {tA t : TA} {d e : Dt} {ds es : List Dt} {C : Addr} {fs : List Str} {R : List Dt → Rs → Prop} {s : TS} {o : Out} {i : Nat} {t' : Option Addr}
def DoesI (P : Program) (w : World) (K : PySem.W.Frag) (E : XK) (C p : Addr) (t : TS) (env : En) : Ri → Prop
  | .f fs es => ∃ e : En, e[0]? = some (.ow (some p) (.ins C fs es)) ∧ Se P w K t env (.nx e)
  | .x y => ∃ e, Se P w K t env (.rz (fun cls d _ H => E cls d H) y e)
theorem Ix.of {x q : Str} {ps N : List Str} {st : Stmt} {k : Nat} {Ri : List Dt → Ri → Prop} (D : Di K mg C x q ps st) (S : FnScope N ps (defScope st)) (hl : ∀ ds r, Ri ds r → ds.length + 1 = ps.length)
    (hb : ∀ (f : Addr) (cdv : Value) (A : Around) (outer : List Env) (s : Shared) (H : Hp) (E : XK), Room k (A.deeper (envOfC q (defScope st) s.heap.objs.size f cdv)) →
      Takes (cxOf (L2.CX P w) P w K mg base N q (defScope st) f cdv A outer s H E) (fun cls d _ H => E cls d H) →
      ∃ t, PSs (cxOf (L2.CX P w) P w K mg base N q (defScope st) f cdv A outer s H E) (defBody st) t ∧ ∀ p ds r, Ri ds r → DoesI P w K E C p t (Sl.ow (some p) (.ins C [] []) :: (ds.map Sl.d ++ List.replicate (N.length - (ds.length + 1)) Sl.u)) r) :
    Ix P w K mg base (k + 1) C x ps (spI P w K C Ri) := by
  obtain ⟨f, fd, h1, hm, F, h3⟩ := D
  refine ⟨f, fd, h1, hm, h3, F.ok S (fun vs H Q E h => ?_) fun cdv A outer s H vs Q E hr h => ?_⟩
  · obtain ⟨F, p, dx, vs', ds, r, rfl, _, _, _, rp, hR, _⟩ := h
    have := hl ds r hR
    rw [List.length_cons, ← rp.length]
    exact this
  · obtain ⟨t, ht, hs⟩ := hb f cdv A outer s H E hr (takes_of rfl rfl rfl rfl)
    refine ⟨t, ht, ?_⟩
    obtain ⟨F, p, dx, vs', ds, r, rfl, ex, nF, hp, rp, hR, q⟩ := h
    have hs' := hs p ds r hR
    have S0 := Sm.startO (P := P) (w := w) (N := N) (u := .ins C [] []) ex nF hp ⟨dx, [], rfl, rfl, rfl⟩ rp
    cases r with
    | f fs es =>
      obtain ⟨e1, he, hse⟩ := hs'
      refine hse F (hide H p) F H _ _ S0 fun F' H' σ' e2 S' => ?_
      obtain ⟨p', o', g1, g2, g3, g4, g5, g6⟩ := S'.own he
      obtain rfl := g2 p rfl
      exact q F' H' o' e2 S'.sub (fun a z ne hz => S'.g.h a z (by rw [hide_ne ne]; exact hz)) (fun a z hz hn => by
        by_cases e : a = p'
        · subst e
          exact g3
        · exact S'.g.n a z (by rw [hide_ne e]; exact hz) hn) g5 g6
    | x y =>
      obtain ⟨e1, hse⟩ := hs'
      exact hse F (hide H p) F H _ _ S0 fun od F' H' σ' e2 S' hx => q od F' H' e2 S'.sub (fun a z ne hz => S'.g.h a z (by rw [hide_ne ne]; exact hz)) (fun a z ne hz => S'.g.n a z (by rw [hide_ne ne]; exact hz)) hx
theorem po_make {E : XK} {Rc : List Dt → Ri → Prop} (h : EpA P w K tA env ds) (hR : Rc ds (.f fs es)) : EpO P w K (tMake C (spI P w K C Rc) [] E tA) env (.ins C fs es) := fun F0 H0 F H σ S Q q =>
  h F0 H0 F H σ S _ fun vs F1 H1 k1 r1 x dx hx hdx ne => by
    have n1 : F1 x = none := none_sub k1.s hx
    refine ⟨F1, x, dx, vs, ds, .f fs es, by rw [List.append_nil], fun a u z => ?_, n1, upd_same, r1, hR, fun F2 H2 o2 f2 s2 k2 n2 h2 r2 => ⟨rfl, q x o2 F2 H2 ⟨k1.f.trans f2, fun a u z => ?_, s2, fun a u z n => ?_⟩ (none_sub k1.h hx) ?_ h2 r2⟩⟩
    · rw [upd_ne (ne_of_none z n1), upd_ne (ne_of_none z (none_sub k1.s hdx))]
      exact k1.s a u z
    · have z1 := k1.h a u z
      refine k2 a u (ne_of_none z1 hx) ?_
      rw [upd_ne (ne_of_none z1 hx), upd_ne (ne_of_none z1 hdx)]
      exact z1
    · have z1 := k1.h a u z
      refine n2 a u ?_ (k1.n a u z n)
      rw [upd_ne (ne_of_none z1 hx), upd_ne (ne_of_none z1 hdx)]
      exact z1
    · exact n2 x _ upd_same n1
theorem ep_fld {n : Str} (c : Cls K C) (hn : NoAttr K C n) (h : Ep P w K ta env (.obj C fs ds)) (hl : (fs.zip ds).lookup n = some d) : Ep P w K (tFld K ta n) env d := fun F0 H0 F H σ S Q q =>
  h F0 H0 F H σ S _ fun v F1 H1 k1 r => by
    obtain ⟨a, dx, vs, rfl, h1, h2, h3⟩ := r
    obtain ⟨u, l1, l2⟩ := zip_lookup h3 hl
    exact ⟨a, C, dx, _, u, rfl, k1.s a _ h1, c, hn, l1, q u F1 H1 k1 l2⟩
theorem ep_fldO {n : Str} (c : Cls K C) (hn : NoAttr K C n) (hi : env[i]? = some (.ow t' (.ins C fs ds))) (hl : (fs.zip ds).lookup n = some d) : Ep P w K (tFld K (tVar i) n) env d := fun F0 H0 F H σ S Q q => by
  obtain ⟨a, ho, e1, _, g1, g2, g3, dx, vs, rfl, h2, h3⟩ := S.own hi
  obtain ⟨u, l1, l2⟩ := zip_lookup h3 hl
  exact ⟨_, e1, a, C, dx, _, u, rfl, g3, c, hn, l1, q u F H (Wk.refl S.sub) l2⟩
theorem putF_new {f : Str} {v : V} : ∀ {fs : List Str} {vs : List V}, fs.length = vs.length → fs.contains f = false → putF f v (fs.zip vs) = (fs ++ [f]).zip (vs ++ [v])
  | [], [], _, _ => rfl
  | g :: fs, u :: vs, h, hc => by
    rw [List.contains_cons, Bool.or_eq_false_iff] at hc
    have ne : ¬ g = f := fun e => by simp [e] at hc
    show (if g = f then _ else (g, u) :: putF f v (fs.zip vs)) = _
    rw [if_neg ne, putF_new (by simpa using h) hc.2]
    rfl
theorem putF_old {f : Str} {v : V} : ∀ {fs : List Str} {vs : List V} {k : Nat}, fs.length = vs.length → fs[k]? = some f → (∀ j, j < k → fs[j]? ≠ some f) → putF f v (fs.zip vs) = fs.zip (vs.set k v)
  | [], _, k, _, h, _ => by simp at h
  | g :: fs, [], k, h, _, _ => by simp at h
  | g :: fs, u :: vs, 0, h, e, _ => by
    simp at e
    show (if g = f then _ else _) = _
    rw [if_pos e]
    rfl
  | g :: fs, u :: vs, k + 1, h, e, n => by
    have ne : ¬ g = f := fun z => n 0 (Nat.zero_lt_succ _) (by simp [z])
    show (if g = f then _ else (g, u) :: putF f v (fs.zip vs)) = _
    rw [if_neg ne, putF_old (k := k) (by simpa using h) (by simpa using e) fun j hj z => n (j + 1) (by omega) (by simpa using z)]
    rfl
theorem se_fldN {n : Str} (c : Cls K C) (hn : NoAttr K C n) (hv : Ee P w K tv env d env1) (hi : env1[i]? = some (.ow t' (.ins C fs ds)) := by rfl) (hc : fs.contains n = false := by decide +kernel) (hz : fs.length < 900 := by exact Nat.lt_of_lt_of_le (Nat.lt_succ_self _) (Nat.le_of_ble_eq_true rfl)) :
    Se P w K (sFld K (tVar i) tv n) env (.nx (env1.set i (.ow t' (.ins C (fs ++ [n]) (ds ++ [d]))))) := fun F0 H0 F H σ D S p =>
  hv.2 F0 H0 F H σ S _ fun v F1 H1 k1 S1 r => by
    obtain ⟨a, ho, e1, _, g1, g2, g3, dx, vs, rfl, h2, h3⟩ := S1.own hi
    refine ⟨_, e1, a, C, dx, _, rfl, g3, c, hn, by rw [List.length_zip, ← h2]; omega, ?_⟩
    rw [putF_new h2 hc]
    exact p F1 _ σ k1.f (S1.mut hi e1 ⟨dx, vs ++ [v], rfl, by simp [h2], RpL.append h3 (RpL.cons r RpL.nil)⟩)
theorem se_fldS {n : Str} {k : Nat} (c : Cls K C) (hn : NoAttr K C n) (hv : Ee P w K tv env d env1) (hi : env1[i]? = some (.ow t' (.ins C fs ds)) := by rfl) (hk : fs[k]? = some n := by rfl) (hf : ∀ j, j < k → fs[j]? ≠ some n := by decide +kernel) (hz : fs.length < 900) :
    Se P w K (sFld K (tVar i) tv n) env (.nx (env1.set i (.ow t' (.ins C fs (ds.set k d))))) := fun F0 H0 F H σ D S p =>
  hv.2 F0 H0 F H σ S _ fun v F1 H1 k1 S1 r => by
    obtain ⟨a, ho, e1, _, g1, g2, g3, dx, vs, rfl, h2, h3⟩ := S1.own hi
    refine ⟨_, e1, a, C, dx, _, rfl, g3, c, hn, by rw [List.length_zip, ← h2]; omega, ?_⟩
    rw [putF_old h2 hk hf]
    exact p F1 _ σ k1.f (S1.mut hi e1 ⟨dx, vs.set k v, rfl, by simp [h2], RpL.set k h3 r⟩)
theorem zip_none {n : Str} : ∀ {fs : List Str} {vs : List V}, fs.contains n = false → (fs.zip vs).lookup n = none
  | [], _, _ => by simp
  | g :: fs, [], _ => by simp
  | g :: fs, u :: vs, h => by
    rw [List.contains_cons, Bool.or_eq_false_iff] at h
    rw [List.zip_cons_cons, List.lookup_cons, h.1]
    exact zip_none h.2
theorem ep_meth {E : XK} {m : Str} (h : Ep P w K ta env (.obj C fs ds)) (hA : EpA P w K t env es) (hf : R (.obj C fs ds :: es) (.d d)) (hm : fs.contains m = false := by decide +kernel) : Ep P w K (tMeth C m (spR P w K R) [] E ta t) env d := fun F0 H0 F H σ S Q q =>
  h F0 H0 F H σ S _ fun v F1 H1 k1 r => by
    have r' := r
    obtain ⟨a, dx, vs, rfl, h1, h2, h3⟩ := r
    exact ⟨a, dx, _, rfl, k1.s a _ h1, zip_none hm, hA F0 H0 F1 H1 σ (S.wk k1) _ fun us F2 H2 k2 r2 => ⟨F2, _, .d d, k2.s, by rw [List.append_nil]; exact ⟨_, _, rfl, r'.mono k2.f, r2⟩, hf, fun v F3 H3 k3 r3 => q v F3 H3 ((k1.trans k2).trans k3) r3⟩⟩
theorem po_meth {E : XK} {m : Str} {u : Ow} (h : Ep P w K ta env (.obj C fs ds)) (hA : EpA P w K t env es) (hf : R (.obj C fs ds :: es) (.o u)) (hm : fs.contains m = false := by decide +kernel) : EpO P w K (tMeth C m (spR P w K R) [] E ta t) env u := fun F0 H0 F H σ S Q q =>
  h F0 H0 F H σ S _ fun v F1 H1 k1 r => by
    have r' := r
    obtain ⟨a, dx, vs, rfl, h1, h2, h3⟩ := r
    exact ⟨a, dx, _, rfl, k1.s a _ h1, zip_none hm, hA F0 H0 F1 H1 σ (S.wk k1) _ fun us F2 H2 k2 r2 => ⟨F2, _, .o u, k2.s, by rw [List.append_nil]; exact ⟨_, _, rfl, r'.mono k2.f, r2⟩, hf, fun p o F3 H3 k3 n1 n2 h3 r3 => q p o F3 H3 ((k1.trans k2).trans k3) (none_sub (k1.trans k2).h n1) n2 h3 r3⟩⟩
theorem RpL.flatAll {F F' : Hp} : ∀ {ds : List Dt} {vs : List V}, RpL K F ds vs → ds.all flatD = true → RpL K F' ds vs
  | [], _, h, _ => h
  | d :: ds, vs, h, f => by
    obtain ⟨v, r, rfl, q, s⟩ := h
    rw [List.all_cons, Bool.and_eq_true] at f
    exact ⟨v, r, rfl, q.flat f.1, RpL.flatAll s f.2⟩
/-- self.m() of an object that is being made: it is lent -/
theorem po_methL {E : XK} {m : Str} {zs : List Dt} (hi : env[i]? = some (.ow t' (.ins C fs ds))) (hf : R [.obj C fs ds] (.o (.lst zs))) (hz : zs.all flatD = true) (hm : fs.contains m = false := by decide +kernel) : EpO P w K (tMeth C m (spR P w K R) [] E (tVar i) tNil) env (.lst zs) := fun F0 H0 F H σ S Q q => by
  obtain ⟨a, ho, e1, _, g1, g2, g3, g4⟩ := S.own hi
  have g4' := g4
  obtain ⟨dx, vs, rfl, h2, h3⟩ := g4
  have ex : Ex (L2.upd F a (.ins C dx (fs.zip vs))) H := fun b u z => by
    by_cases e : b = a
    · subst e
      rw [upd_same] at z
      rw [g3, ← z]
    · rw [upd_ne e] at z
      exact S.sub b u z
  refine ⟨_, e1, a, dx, _, rfl, g3, zip_none hm, L2.upd F a (.ins C dx (fs.zip vs)), [.obj C fs ds], .o (.lst zs), ex, ?_, hf, fun p o F3 H3 k3 n1 n2 h3 r3 => ?_⟩
  · exact ⟨_, [], rfl, (g4'.mono (Ex.new g1)).rp rfl upd_same, rfl⟩
  · obtain ⟨us, rfl, r4⟩ := r3
    exact q p _ F H3 ⟨Ex.refl F, k3.h, S.sub.trans k3.h, fun _ _ _ n => n⟩ n1 (none_sub S.sub n1) h3 ⟨us, rfl, RpL.flatAll r4 hz⟩
theorem se_raise2 {W : WX} {f1 f2 : Str} (h : EpA P w K tA env [d, e]) : Se P w K (fun _ σ H => tMkO C (spX2 C f1 f2) [] tA σ H fun cls d H' => W cls d σ H') env (.rz W ⟨C, [f2, f1], [e, d]⟩ env) := fun F0 H0 F H σ D S p =>
  h F0 H0 F H σ S _ fun vs F1 H1 k1 r => by
    obtain ⟨v1, r1, rfl, q1, v2, r2, rfl, q2, e3⟩ := r
    cases e3
    refine ⟨by show 2 ≤ 1000; decide, fun a ha => ⟨a, v1, v2, rfl, upd_same, fun dx H' hx ne h1 h2 hk => ⟨rfl, dx, _, h1, h2, ?_, ?_⟩⟩⟩
    · rw [upd_ne ne] at hx
      exact hx
    · have hx1 : H1 dx = none := by
        rw [upd_ne ne] at hx
        exact hx
      have S1 := S.wk k1
      have kk : Wk F1 H1 (L2.upd F1 dx (.xd [(f2, v2), (f1, v1)])) (L2.upd (del H' a) dx (.xd [(f2, v2), (f1, v1)])) := by
        refine ⟨Ex.new (none_sub k1.s hx1), fun b u z => ?_, fun b u z => ?_, fun b u z n => ?_⟩
        · have nb := ne_of_none z hx1
          have na := ne_of_none z ha
          rw [upd_ne nb, del_ne na, hk b na nb, upd_ne na]
          exact z
        · by_cases e : b = dx
          · subst e
            rw [upd_same] at z ⊢
            exact z
          · rw [upd_ne e] at z
            have zH := k1.s b u z
            have na := ne_of_none zH ha
            rw [upd_ne e, del_ne na, hk b na e, upd_ne na]
            exact zH
        · rw [upd_ne (ne_of_none z hx1)]
          exact n
      refine p (some dx) _ _ σ (k1.f.trans kk.f) (S1.wk kk) (.inr ⟨dx, [v2, v1], (fun z => nomatch z), rfl, rfl, ⟨v2, [v1], rfl, q2.mono kk.f, v1, [], rfl, q1.mono kk.f, rfl⟩, ?_⟩)
      exact upd_same
theorem se_raise0 {W : WX} : Se P w K (fun _ σ H => (fun (_ : L2.St) (H : Hp) (Q : XK) => Q (.ref C) none H) σ H fun cls d H' => W cls d σ H') env (.rz W ⟨C, [], []⟩ env) := fun F0 H0 F H σ D S p => p none F H σ (Ex.refl F) S (.inl ⟨rfl, rfl⟩)
theorem ep_ixO {xs : List Dt} {k : Int} {j : Nat} {tk : TE} (hi : env[i]? = some (.ow t' (.lst xs)) := by rfl) (hk : Ep P w K tk env (.int k)) (hj : ixN xs.length k = some j) (h : xs[j]? = some d) : Ep P w K (tOp (rIxL K) (tVar i) tk) env d := fun F0 H0 F H σ S Q q => by
  obtain ⟨a, ho, e1, _, g1, g2, g3, vs, rfl, h3⟩ := S.own hi
  refine ⟨_, e1, hk F0 H0 F H σ S _ fun kv F1 H1 k1 r1 => ?_⟩
  obtain ⟨v, h4, h5⟩ := h3.get h
  exact ⟨a, vs, k, v, rfl, r1, SqL.of (k1.h a _ g3), by unfold atI; rw [← h3.length, hj]; exact h4, q v F1 H1 k1 (h5.mono k1.f)⟩
theorem tp_truO {xs : List Dt} (hi : env[i]? = some (.ow t' (.lst xs)) := by rfl) : Tp P w K (fun σ H Q => tVar i σ H fun x H' => ∃ k, TruV K x H' k ∧ Q k H') env (!xs.isEmpty) := fun F0 H0 F H σ S Q q => by
  obtain ⟨a, ho, e1, _, g1, g2, g3, vs, rfl, h3⟩ := S.own hi
  exact ⟨_, e1, !xs.isEmpty, .inl ⟨vs, SqL.of g3, isEmpty_rp h3⟩, q F H (Wk.refl S.sub)⟩
theorem ee_popO {xs : List Dt} (hi : env[i]? = some (.ow t' (.lst (xs ++ [d]))) := by rfl) : Ee P w K (tBM0 K "list" rPop (tVar i)) env d (env.set i (.ow t' (.lst xs))) := ⟨Sh.set hi, fun F0 H0 F H σ S Q q => by
  obtain ⟨a, ho, e1, _, g1, g2, g3, vs, rfl, h3⟩ := S.own hi
  have hl := h3.length
  simp at hl
  obtain ⟨v, h4, h5⟩ := h3.get (i := xs.length) (d := d) (by simp)
  refine ⟨_, e1, .inl ⟨rfl, vs, sq_of g3⟩, a, vs, v, rfl, rfl, g3, by rw [show vs.length - 1 = xs.length by omega]; exact h4, ?_⟩
  refine q v F _ (Wo.mut S hi e1) (S.mut hi e1 ⟨_, rfl, ?_⟩) h5
  have := h3.take xs.length
  rw [List.take_left' rfl] at this
  rw [List.dropLast_eq_take, show vs.length - 1 = xs.length by omega]
  exact this⟩
theorem po_set0 : EpO P w K (tCB (rSet0K P w) tNil) env (.set (fun _ => false) 0) := fun F0 H0 F H σ S Q q => ⟨rfl, fun p hp => q p _ F _ (Wk.own S.sub _ hp) hp (none_sub S.sub hp) upd_same ⟨0, Nat.le_refl _, rfl⟩⟩
theorem keys_of {F : Hp} : ∀ {ks : List Key} {vs : List V}, RpL K F (ks.map kD) vs → vs = ks.map kV
  | [], _, h => h
  | k :: ks, _, h => by
    obtain ⟨v, r, rfl, q, s⟩ := h
    rw [kD_rp q, keys_of s]
    rfl
theorem po_setL {ks : List Key} (h : EpA P w K tA env [.lst (ks.map kD)]) (hn : ks.length ≤ 4000) : EpO P w K (tCB (Qs.rSetL K P w) tA) env (.set (Qs.memK ks) ks.length) := fun F0 H0 F H σ S Q q =>
  h F0 H0 F H σ S _ fun vs F1 H1 k1 r => by
    obtain ⟨v, r1, rfl, ⟨a, us, rfl, h1, h2⟩, e⟩ := r
    cases e
    cases keys_of h2
    exact ⟨a, ks, rfl, ex_l k1.s h1, hn, fun p m hm hp => q p _ F1 _ (k1.trans (Wk.own k1.s _ hp)) (none_sub k1.h hp) (none_sub k1.s hp) upd_same ⟨m, hm, rfl⟩⟩
theorem ep_inS {k : Key} {S0 : Key → Bool} {m : Nat} (neg : Bool) (hk : Ep P w K te env (kD k)) (hi : env[i]? = some (.ow t' (.set S0 m)) := by rfl) : Ep P w K (tOp (rSInK P w neg) te (tVar i)) env (.bl (if neg then !S0 k else S0 k)) := fun F0 H0 F H σ S Q q =>
  hk F0 H0 F H σ S _ fun y F1 H1 k1 r1 => by
    obtain ⟨a, ho, e1, _, g1, g2, g3, c, hc, rfl⟩ := (S.wk k1).own hi
    rw [kD_rp r1]
    exact ⟨_, e1, k, a, S0, c, rfl, rfl, g3, q _ F1 H1 k1 rfl⟩
theorem se_addS {k : Key} {S0 : Key → Bool} {m : Nat} (hk : Ep P w K te env (kD k)) (hi : env[i]? = some (.ow t' (.set S0 m)) := by rfl) (hm : m < 4000) : Se P w K (tDrop (tSAddK P w (tVar i) (tCons te tNil))) env (.nx (env.set i (.ow t' (.set (fun j => S0 j || decide (j = k)) (m + 1))))) := fun F0 H0 F H σ D S p => by
  obtain ⟨a, ho, e1, _, g1, g2, g3, c, hc, rfl⟩ := S.own hi
  refine ⟨_, e1, ⟨a, S0, c, rfl, g3⟩, hk F0 H0 F H σ S _ fun y F1 H1 k1 r1 => ?_⟩
  rw [kD_rp r1]
  refine ⟨a, k, S0, c, rfl, rfl, k1.h a _ g3, by unfold scanBound; omega, ?_⟩
  exact p F1 _ σ k1.f ((S.wk k1).mut hi e1 ⟨_, by split <;> omega, rfl⟩)
end
end Qw
set_option maxHeartbeats 1000000
namespace Qw
open PySem PySem.Spec PyProof.Rows L2 Evl
open Pw (spX2 Xm Xm0)
section
variable {X : Cx} {x m : Str} {C : Addr} {ps : List Str} {sp : Sp} {k : Nat} {e o : Expr} {es : List Expr} {t : TA} {ta : TE} {p pos apos : Pos} {W : WX}
theorem pe_fx (F : Fx X.prog X.w X.K X.mg X.base k x ps sp) (hr : Room k X.A) (ha : PA X (e :: es) t) (hg : Gl X x := by rfl)
    (hdb : (x == ("__debug__" : Str)) = false := by decide) (he : starEach (e :: es) X.env = (false, eval e X.env) :: starEach es X.env := by rfl) (hpl : (backTo pos (starEach es X.env)).any (·.1) = false := by rfl) :
    PE X (.Call (.Name x p) (e :: es) [] pos) (tCall sp [] E0 t) := by
  obtain ⟨f, fd, h1, h2, h3, h4⟩ := F
  exact pe_call h4 hr hg h1 h2 h3 .nil passL ha hdb he hpl
theorem pe_fxS (F : Fx X.prog X.w X.K X.mg X.base k x ps sp) (hr : Room k X.A) (tk : Takes X W) (ha : PA X (e :: es) t) (hg : Gl X x := by rfl)
    (hdb : (x == ("__debug__" : Str)) = false := by decide) (he : starEach (e :: es) X.env = (false, eval e X.env) :: starEach es X.env := by rfl) (hpl : (backTo pos (starEach es X.env)).any (·.1) = false := by rfl) :
    PE X (.Call (.Name x p) (e :: es) [] pos) (tCallS sp (WE W) t) := by
  obtain ⟨f, fd, h1, h2, h3, h4⟩ := F
  exact pe_callS h4 hr hg h1 h2 h3 (fun σ => passAt tk σ) ha hdb he hpl
theorem pe_mx {pl : Sem Bool} (F : Mx X.prog X.w X.K X.mg X.base k C m ps sp) (c : Cls X.K C) (hr : Room k X.A) (ho : PE X o ta) (ha : PA X (e :: es) t)
    (hst : starEach (e :: es) X.env = (false, eval e X.env) :: starEach es X.env := by rfl) (hpl : (backTo pos (starEach es X.env)).any (·.1) = false := by rfl)
    (ht : eval (.Call (.Attribute o m apos) (e :: es) [] pos) X.env = (do
      let ov ← eval o X.env
      standAt apos.atName
      let (f, first) ← holding [ov] (getMethod ov m pl)
      callWith pos f first (backTo pos (starEach (e :: es) X.env)) (backToKw pos (keywordEach [] X.env))) := by rfl) :
    PE X (.Call (.Attribute o m apos) (e :: es) [] pos) (tMeth C m sp [] E0 ta t) := by
  obtain ⟨f, fd, h1, h3, h4⟩ := F
  exact pe_meth ho c h1 h4 hr h3 .nil passL ha hst hpl ht
theorem pe_mx0 {pl : Sem Bool} (F : Mx X.prog X.w X.K X.mg X.base k C m ps sp) (c : Cls X.K C) (hr : Room k X.A) (ho : PE X o ta)
    (ht : eval (.Call (.Attribute o m apos) [] [] pos) X.env = (do
      let ov ← eval o X.env
      standAt apos.atName
      let (f, first) ← holding [ov] (getMethod ov m pl)
      callWith pos f first (backTo pos (starEach [] X.env)) (backToKw pos (keywordEach [] X.env))) := by rfl) :
    PE X (.Call (.Attribute o m apos) [] [] pos) (tMeth C m sp [] E0 ta tNil) := by
  obtain ⟨f, fd, h1, h3, h4⟩ := F
  exact pe_meth0 ho c h1 h4 hr h3 .nil passL ht
theorem pe_ix2 (F : Ix X.prog X.w X.K X.mg X.base k C x ps sp) (hr : Room (k + 1) X.A) (ha : PA X (e :: es) t) (hg : Gl X x := by rfl)
    (hdb : (x == ("__debug__" : Str)) = false := by decide) (he : starEach (e :: es) X.env = (false, eval e X.env) :: starEach es X.env := by rfl) (hpl : (backTo pos (starEach es X.env)).any (·.1) = false := by rfl) :
    PE X (.Call (.Name x p) (e :: es) [] pos) (tMake C sp [] E0 t) := by
  obtain ⟨f, fd, h1, hm, h3, h4⟩ := F
  exact pe_make hm h4 hr hg h1 h3 .nil passL ha hdb he hpl
/-- the exception's making, of a class with the __init__ of two fields -/
theorem pm_2 {f1 f2 : Str} (G : Xm X.prog X.w X.K X.mg X.base x C (spX2 C f1 f2)) (hr : Room 2 X.A) (ha : PA X (e :: es) t) (hg : Gl X x := by rfl)
    (hdb : (x == ("__debug__" : Str)) = false := by decide) (he : starEach (e :: es) X.env = (false, eval e X.env) :: starEach es X.env := by rfl) (hpl : (backTo pos (starEach es X.env)).any (·.1) = false := by rfl) :
    PMk X (.Call (.Name x p) (e :: es) [] pos) (tMkO C (spX2 C f1 f2) [] t) := by
  obtain ⟨fI, fd, ps, h1, h2, h3, h4, h5, h6⟩ := G
  exact pmk_oex h2 h3 h4 h6 hr h5 .nil pass0 hg h1 ha hdb he hpl
theorem pset {i : Nat} {y : Str} {te : TE} {pos' : Pos} (hN : X.N.Nodup) (he : PE X e te) (hi : X.N[i]? = some y := by rfl) (hx : Loc X.env.scope y := by first | exact Or.inl rfl | exact Or.inr rfl) (hs : swapsWith e (some (.Name y pos')) pos.line X.env = pure false := by rfl)
    (hf : X.fn y = true ∨ X.env.scope.names.lookup y = some .local := by first | exact .inl rfl | exact .inr rfl | assumption) : PS X (.Assign [.Name y pos'] e pos) (tAsg te (gName i)) := ps_set hN hi hx he hs hf
theorem pgn {i : Nat} {y : Str} (hN : X.N.Nodup) (hi : X.N[i]? = some y := by rfl) (hx : Loc X.env.scope y := by first | exact Or.inl rfl | exact Or.inr rfl)
    (hf : X.fn y = true ∨ X.env.scope.names.lookup y = some .local := by first | exact .inl rfl | exact .inr rfl | assumption) : PG X (.Name y pos) (gName i) := pg_name hN hi hx hf
end
end Qw
set_option maxHeartbeats 1000000
namespace Qw
open PySem PySem.Spec PyProof.Rows L2 Evl
open Pw (Dt Rp RpL Wk none_sub get_set set_same set_ne R2d R1d RLd RLn Kq KqL truD isEmpty_rp flatD fl py pyL rangeD rangeD_len charsD wl_at Wl wl_range rangeD_nat find_split itemD spX2 Xm Xm0)
def iSeq (K : PySem.W.Frag) (tl : TE) : TI := fun σ H R => tl σ H fun x H1 => ∃ a, x = .ref a ∧ (((∃ xs, SqL K H1 a xs) ∧ R (Itl K a) H1) ∨ ((∃ xs, SqT K H1 a xs) ∧ R (Itt K a) H1))
theorem pie_new {X : Cx} {pins : List (Addr × Obj)} {σ : L2.St} {tg : Expr} {R : It → Hp → Prop} {H : Hp} {s : Shared} {J : It} {o : Obj} {tn : Nat → Heap → Prop} (I : Inv X pins σ H s) (t : Turn X.prog X.w X.K tg J [s.heap.objs.size] s.heap.objs.size tn)
    (h0 : tn 0 (s.heap.push o)) (q : R J H) : PIE X pins σ tg R (.ref s.heap.objs.size) { s with heap := s.heap.push o } := by
  refine ⟨_, _, tn, J, H, rfl, I.kept (t' := s.toks) fun b o e => Heap.get?_push_of_some _ e, t, h0, fun b hb => ?_, q⟩
  rw [List.mem_singleton] at hb
  subst hb
  exact I.fpOk (Nat.le_refl _) (I.hok.fresh (Nat.le_refl _))
theorem pi_seq {X : Cx} {tg l : Expr} {tl : TE} (hl : PE X l tl) : PI X tg l (iSeq X.K tl) := by
  refine ⟨fun pins s σ H R I h => thn (hl.run pins s σ H _ I h) fun v s1 hv => ?_⟩
  obtain ⟨x, H1, I1, r1, a, e, q⟩ := hv
  subst e
  cases r1
  rcases q with ⟨⟨xs, hq⟩, q⟩ | ⟨⟨xs, hq⟩, q⟩
  · obtain ⟨its, _, p, _⟩ := I1.list hq
    exact wpAny_pyIter_list p.isList (pie_new I1 (turn_list a _) ⟨_, Heap.get?_push_size _ rfl, rfl, rfl⟩ q)
  · obtain ⟨its, _, p, _⟩ := I1.tuple hq
    exact wpAny_pyIter_tuple (show s1.heap.IsTuple a its.toArray from p) (pie_new I1 (turn_tuple a _) ⟨_, Heap.get?_push_size _ rfl, rfl, rfl⟩ q)
section
variable {P : Program} {w : World} {K : PySem.W.Frag} {env : En} {tl : TE} {ds : List Dt}
theorem ip_seqL (h : Ep P w K tl env (.lst ds)) : Ip P w K (iSeq K tl) env ds := fun F0 H0 F H σ S R k =>
  h F0 H0 F H σ S _ fun v F1 H1 k1 r => by
    obtain ⟨a, vs, rfl, h1, h2⟩ := r
    exact ⟨a, rfl, .inl ⟨⟨vs, ex_l k1.s h1⟩, k _ F1 H1 k1 (wl_at h2 walk_list fun H e => ex_l e h1)⟩⟩
theorem ip_seqT (h : Ep P w K tl env (.tup ds)) : Ip P w K (iSeq K tl) env ds := fun F0 H0 F H σ S R k =>
  h F0 H0 F H σ S _ fun v F1 H1 k1 r => by
    obtain ⟨a, vs, rfl, h1, h2⟩ := r
    exact ⟨a, rfl, .inr ⟨⟨vs, ex_t k1.s h1⟩, k _ F1 H1 k1 (wl_at h2 walk_tup fun H e => ex_t e h1)⟩⟩
/-- tuple(xs) of a list or of a tuple -/
theorem ep_globT {a : Addr} {ds : List Dt} (h : ∀ F : Hp, Rp K F (.tup ds) (.ref a)) : Ep P w K (tC (.ref a)) env (.tup ds) := ep_c h
theorem rp_wr {a : Addr} {ds : List Dt} {vs : List V} (h : ∀ H, SqT K H a vs) (r : ∀ F, RpL K F ds vs) (F : Hp) : Rp K F (.tup ds) (.ref a) := ⟨a, vs, rfl, h F, r F⟩
theorem rpl_strs {F : Hp} : ∀ (xs : List Str), RpL K F (xs.map Dt.str) (xs.map V.str)
  | [] => rfl
  | x :: xs => ⟨_, _, rfl, rfl, rpl_strs xs⟩
end
end Qw
set_option maxHeartbeats 1000000
namespace Qw
open PySem PySem.Spec PyProof.Rows L2 Evl
open Pw (Dt Rp RpL Wk none_sub get_set set_same set_ne R2d R1d RLd RLn Kq KqL truD isEmpty_rp flatD fl py pyL rangeD rangeD_len charsD wl_at Wl wl_range rangeD_nat find_split itemD spX2 Xm Xm0)
section
variable {P : Program} {w : World} {K : PySem.W.Frag} {env env1 env2 env3 : En} {te tv : TE} {d e z : Dt} {g g1 : TG} {wi wi1 : TI} {tt tt1 : TT}
/-- what is made so far, in the list at D -/
structure Mk2 (P : Program) (w : World) (K : PySem.W.Frag) (F0 H0 F1 H1 : Hp) (σ : L2.St) (env : En) (D : Addr) (l : List Dt) (F2 H2 : Hp) (acc : List V) : Prop where
  f : Ex F1 F2
  d : F2 D = none
  a : H2 D = some (.lst acc)
  r : RpL K F2 l acc
  s : Sm P w K F0 H0 F2 H2 σ env
  h : Ex H1 H2
  n : ∀ a o, H1 a = some o → F1 a = none → F2 a = none
theorem Mk2.wk {F0 H0 F1 H1 F2 H2 F3 H3 : Hp} {σ : L2.St} {D : Addr} {l : List Dt} {acc : List V} (m : Mk2 P w K F0 H0 F1 H1 σ env D l F2 H2 acc) (k : Wk F2 H2 F3 H3) : Mk2 P w K F0 H0 F1 H1 σ env D l F3 H3 acc :=
  ⟨m.f.trans k.f, k.n D _ m.a m.d, k.h D _ m.a, m.r.mono k.f, m.s.wk k, m.h.trans k.h, fun a o h h' => k.n a o (m.h a o h) (m.n a o h h')⟩
theorem Mk2.add {F0 H0 F1 H1 F2 H2 : Hp} {σ : L2.St} {D : Addr} {l : List Dt} {acc : List V} {v : V} (m : Mk2 P w K F0 H0 F1 H1 σ env D l F2 H2 acc) (r : Rp K F2 d v) (n1 : H1 D = none) (n0 : H0 D = none) (nO : ¬ Own σ env D) : Mk2 P w K F0 H0 F1 H1 σ env D (l ++ [d]) F2 (L2.upd H2 D (.lst (acc ++ [v]))) (acc ++ [v]) :=
  ⟨m.f, m.d, upd_same, RpL.append m.r (RpL.cons r RpL.nil), m.s.upd _ m.d n0 nO, fun a o h => by
    rw [upd_ne (ne_of_none h n1)]
    exact m.h a o h, m.n⟩
/-- [e for x in xs for y in inner], its parts changing nothing, no tests -/
theorem np_lc2T {α : Type} {vs vs1 : List Nat} (xs : List α) (dec : α → Dt) (hI : Ip P w K wi env (xs.map dec)) (inner : α → List Dt) (hn : (xs.flatMap inner).length ≤ 40000) (v : Dt → Dt)
    (hs : ∀ (i : Nat) (a : α), xs[i]? = some a → ∃ e1, Gc P w K g vs (dec a) (wipeE env vs) e1 ∧ Ip P w K wi1 e1 (inner a) ∧ ∀ d ∈ inner a, ∃ e2, Gc P w K g1 vs1 d (wipeE e1 vs1) e2 ∧ Ep P w K te e2 (v d)) : EpN P w K (tLc2 wi g tYes wi1 g1 tYes te vs vs1) env ((xs.flatMap inner).map v) := fun F0 H0 F H σ S Q q =>
  hI F0 H0 F H σ S _ fun J F1 H1 k1 W D hD => by
    have nF : F1 D = none := none_sub k1.s hD
    have S1 := S.wk k1
    have n0 : H0 D = none := none_sub S1.g.h hD
    have nO : ¬ Own σ env D := S1.ownNew hD
    unfold Wl at W
    rw [List.length_map] at W
    refine ⟨fun i m H2 => m = xs.length - i ∧ i ≤ xs.length ∧ ∃ F2 acc, Mk2 P w K F0 H0 F1 H1 σ env D (((xs.take i).flatMap inner).map v) F2 H2 acc, ⟨xs.length, by simp, Nat.zero_le _, F1, [], Ex.refl F1, nF, upd_same, rfl, S1.upd _ nF n0 nO, Ex.new hD, fun _ _ _ n => n⟩, ?_⟩
    rintro i m H2 ⟨rfl, hi, F2, acc, M⟩
    by_cases hlt : i < xs.length
    · refine .inr ⟨W.goes i H2 hlt (M.f.trans M.s.sub), fun H' => ∃ F2 acc, Mk2 P w K F0 H0 F1 H1 σ env D (((xs.take (i + 1)).flatMap inner).map v) F2 H' acc, fun H' q => ⟨xs.length - (i + 1), by omega, rfl, hlt, q⟩, fun x H2' y => ?_⟩
      obtain ⟨F3, d', w3, hd', r3⟩ := W.yields i H2 x H2' hlt (M.f.trans M.s.sub) y F2 M.f M.s.sub
      obtain ⟨a, ha⟩ : ∃ a, xs[i]? = some a := ⟨_, List.getElem?_eq_getElem hlt⟩
      rw [List.getElem?_map, ha] at hd'
      cases hd'
      obtain ⟨e1, hg, hi1, he⟩ := hs i a ha
      have etake : (xs.take (i + 1)).flatMap inner = (xs.take i).flatMap inner ++ inner a := by
        rw [List.take_add_one, ha]
        simp
      have htot : ((xs.take (i + 1)).flatMap inner).length ≤ 40000 := by
        refine Nat.le_trans ?_ hn
        rw [show xs.flatMap inner = (xs.take (i + 1)).flatMap inner ++ (xs.drop (i + 1)).flatMap inner by rw [← List.flatMap_append, List.take_append_drop]]
        simp
      have M3 := M.wk w3
      refine hg F0 H0 F3 H2' σ x (M3.s.wipe vs) r3 _ fun σ2 hw hO S3 => ⟨hw, ?_⟩
      have nO2 : ¬ Own σ2 e1 D := fun z => nO (own_wipe (hO D z))
      show wi1 σ2 H2' _
      refine hi1 F0 H0 F3 H2' σ2 S3 _ fun J1 F4 H4 k4 W1 => ?_
      unfold Wl at W1
      have M4 := M3.wk k4
      refine ⟨fun j k H5 => k = (inner a).length - j ∧ j ≤ (inner a).length ∧ ∃ F5 acc, Ex F4 F5 ∧ Mk2 P w K F0 H0 F1 H1 σ env D (((xs.take i).flatMap inner).map v ++ ((inner a).take j).map v) F5 H5 acc ∧ Sm P w K F0 H0 F5 H5 σ2 e1, ⟨(inner a).length, by simp, Nat.zero_le _, F4, acc, Ex.refl F4, by simpa using M4, S3.wk k4⟩, ?_⟩
      rintro j k H5 ⟨rfl, hj, F5, acc5, x5, M5, S5⟩
      by_cases hl2 : j < (inner a).length
      · refine .inr ⟨W1.goes j H5 hl2 (x5.trans S5.sub), fun H' => ∃ F5 acc, Ex F4 F5 ∧ Mk2 P w K F0 H0 F1 H1 σ env D (((xs.take i).flatMap inner).map v ++ ((inner a).take (j + 1)).map v) F5 H' acc ∧ Sm P w K F0 H0 F5 H' σ2 e1, fun H' q => ⟨(inner a).length - (j + 1), by omega, rfl, hl2, q⟩, fun x2 H5' y2 => ?_⟩
        obtain ⟨F6, d2, w6, hd2, r6⟩ := W1.yields j H5 x2 H5' hl2 (x5.trans S5.sub) y2 F5 x5 S5.sub
        obtain ⟨e2, hg1, he1⟩ := he d2 (List.mem_of_getElem? hd2)
        have M6 := M5.wk w6
        refine hg1 F0 H0 F6 H5' σ2 x2 ((S5.wk w6).wipe vs1) r6 _ fun σ3 hw3 _ S6 => ⟨hw3, ?_⟩
        show te σ3 H5' _
        refine he1 F0 H0 F6 H5' σ3 S6 _ fun vv F7 H7 k7 r7 => ?_
        have M7 := M6.wk k7
        refine ⟨acc5, M7.a, ?_, F7, acc5 ++ [vv], (x5.trans w6.f).trans k7.f, ?_, ((S5.wk w6).wk k7).upd _ M7.d n0 nO2⟩
        · rw [← M7.r.length]
          have h1 : ((inner a).take j).length ≤ (inner a).length := by simp; omega
          rw [etake, List.length_append] at htot
          simp only [List.length_append, List.length_map]
          exact sz_lt (by omega)
        · have := M7.add r7 hD n0 nO
          rw [List.append_assoc] at this
          have e3 : (inner a).take (j + 1) = (inner a).take j ++ [d2] := by
            rw [List.take_add_one, hd2]
            rfl
          rw [e3, List.map_append]
          exact this
      · have e : j = (inner a).length := by omega
        subst e
        refine .inl ⟨W1.stops H5 (x5.trans S5.sub), F5, acc5, ?_⟩
        rw [etake, List.map_append]
        rw [List.take_length] at M5
        exact M5
    · have e : i = xs.length := by omega
      subst e
      rw [List.take_length] at M
      exact .inl ⟨W.stops H2 (M.f.trans M.s.sub), q D acc F2 H2 (k1.trans ⟨M.f, M.h, M.s.sub, M.n⟩) (none_sub k1.h hD) M.d M.a M.r⟩
theorem se_fldX {W : WX} {x : Xn} {tv ta : TE} {n : Str} (h : Er P w K W tv env x env1) : Se P w K (sFld K ta tv n) env (.rz W x env1) := fun F0 H0 F H σ D S p => h F0 H0 F H σ S _ fun od F1 H1 k S1 r => p od F1 H1 σ k S1 r
end
end Qw
set_option maxHeartbeats 1000000
namespace Qw
open PySem PySem.Spec PyProof.Rows L2 Evl
open Pw (Dt Rp RpL Wk none_sub get_set set_same set_ne R2d R1d RLd RLn Kq KqL truD isEmpty_rp flatD fl py pyL rangeD rangeD_len charsD wl_at Wl wl_range rangeD_nat find_split itemD spX2 Xm Xm0)
section
variable {P : Program} {w : World} {K : PySem.W.Frag} {env : En}
/-- {k: v, ..} as it is written -/
def EpP (P : Program) (w : World) (K : PySem.W.Frag) (env : En) : List (TE × TE) → KD → Prop
  | [], [] => True
  | t :: ts, p :: ps => Ep P w K t.1 env (kD p.1) ∧ Ep P w K t.2 env p.2 ∧ EpP P w K env ts ps
  | _, _ => False
theorem pairs_run {F0 H0 : Hp} {σ : L2.St} : ∀ {ts : List (TE × TE)} {kvs : KD} {F H : Hp} {Q : List (V × V) → Hp → Prop}, EpP P w K env ts kvs → Sm P w K F0 H0 F H σ env →
    (∀ (q : List (Key × V)) F' H', Wk F H F' H' → PrD K F' kvs q → Q (q.map fun kv => (kV kv.1, kv.2)) H') → tPairs ts σ H Q
  | [], [], F, H, Q, _, S, q => q [] F H (Wk.refl S.sub) ⟨rfl, rfl⟩
  | [], _ :: _, _, _, _, h, _, _ => h.elim
  | _ :: _, [], _, _, _, h, _, _ => h.elim
  | t :: ts, p :: ps, F, H, Q, h, S, q => by
    obtain ⟨h1, h2, h3⟩ := h
    refine h1 F0 H0 F H σ S _ fun x F1 H1 k1 r1 => h2 F0 H0 F1 H1 σ (S.wk k1) _ fun y F2 H2 k2 r2 => pairs_run h3 ((S.wk k1).wk k2) fun qs F3 H3 k3 r3 => ?_
    rw [kD_rp r1]
    exact q ((p.1, y) :: qs) F3 H3 ((k1.trans k2).trans k3) (.cons (r2.mono k3.f) r3)
theorem PrD.merge {F : Hp} : ∀ {more kvs : KD} {q ms : List (Key × V)}, PrD K F kvs q → PrD K F more ms → PrD K F (more.foldl (fun a p => putD a p.1 p.2) kvs) (mergeK q ms)
  | [], kvs, q, ms, h, hm => by
    rw [hm.nil]
    exact h
  | p :: more, kvs, q, ms, h, hm => by
    obtain ⟨v, ms', rfl, r, t⟩ := hm.inv
    exact PrD.merge (more := more) (kvs := putD kvs p.1 p.2) (q := putK q p.1 v) (ms := ms') (h.put p.1 r) t
theorem po_disp {ts : List (TE × TE)} {kvs : KD} (h : EpP P w K env ts kvs) (hn : kvs.length ≤ 15) : EpO P w K (tDisp ts) env (.dk (kvs.foldl (fun a p => putD a p.1 p.2) [])) := fun F0 H0 F H σ S Q q p hp => by
  have nF : F p = none := none_sub S.sub hp
  have n0 : H0 p = none := none_sub S.g.h hp
  have nO := S.ownNew hp
  refine pairs_run h (S.upd (.dK []) nF n0 nO) fun qs F1 H1 k1 r => ⟨k1.h p _ upd_same, qs, rfl, by rw [← r.length]; exact hn, ?_⟩
  have kk : Wk F H F1 (L2.upd H1 p (.dK (mergeK [] qs))) := by
    refine ⟨k1.f, fun a u z => ?_, fun a u z => ?_, fun a u z n => k1.n a u (by rw [upd_ne (ne_of_none z hp)]; exact z) n⟩
    · rw [upd_ne (ne_of_none z hp)]
      exact k1.h a u (by rw [upd_ne (ne_of_none z hp)]; exact z)
    · have : F1 p = none := k1.n p _ upd_same nF
      rw [upd_ne (ne_of_none z this)]
      exact k1.s a u z
  exact q p _ F1 _ kk hp (k1.n p _ upd_same nF) upd_same (odk_of (PrD.merge ⟨rfl, rfl⟩ r))
end
end Qw
set_option maxHeartbeats 400000
namespace Qw
open PySem PySem.Spec PyProof.Rows L2
open Evl hiding ea_cons
open Pw (Dt Rp RpL Wk R2d R1d RLd RLn Kq KqL)
def rCatR (K : PySem.W.Frag) : R2 := fun x y H Q => ∃ a b us vs, x = .ref a ∧ y = .ref b ∧ SqL K H a us ∧ SqL K H b vs ∧ us.length + vs.length ≤ sizeLine ∧ ∀ p, H p = none → Q (.ref p) (upd H p (.lst (us ++ vs)))
section
variable {X : Cx}
theorem op_catS : OpR X (binaryOp .Add) (rCatR X.K) := by
  intro pins s σ H x y v u Q I rx ry h
  obtain ⟨a, b, us, vs, rfl, rfl, ha, hb, hz, q⟩ := h
  cases rx
  cases ry
  obtain ⟨its, r1, p1, _⟩ := I.list ha
  obtain ⟨its2, r2, p2, _⟩ := I.list hb
  obtain ⟨⟨c1, d1, t1, l1⟩, g1, e1, n1, k1⟩ := p1.isList
  obtain ⟨⟨c2, d2, t2, l2⟩, g2, e2, n2, k2⟩ := p2.isList
  simp only at e1 k1 e2 k2
  subst e1 k1 e2 k2
  have hs : its.toArray.size + its2.toArray.size ≤ sizeLine := by
    rw [List.size_toArray, List.size_toArray, ← r1.length, ← r2.length]
    exact hz
  have eq : its.toArray ++ its2.toArray = (its ++ its2).toArray := by simp
  refine concat_meets ⟨_, g1, rfl⟩ ⟨_, g2, rfl⟩ noFill_list_add seq_list_add PySem.F.slot_list_add PySem.F.entry_list_add (PySem.F.args_list_add_2 _ _) (list_addW a b its.toArray its2.toArray n1 n2 d1 d2 l1 l2 hs) ⟨g1, g2, ?_⟩
  rw [eq]
  exact ⟨.ref _, _, I.lnew (t' := s.toks) (r1.append r2) (by rw [List.length_append]; exact hz), rfl, q _ I.fresh⟩
end
section
variable {K : PySem.W.Frag}
variable {P : Program} {w : World} {env : En} {ta tb : TE}
theorem r2_cat {ds es : List Dt} (hl : ds.length + es.length ≤ 100000) : R2d K (rCatR K) (.lst ds) (.lst es) (.lst (ds ++ es)) := fun F H x y s r1 r2 Q q => by
  obtain ⟨a, us, rfl, g1, e1⟩ := r1
  obtain ⟨b, vs, rfl, g2, e2⟩ := r2
  refine ⟨a, b, us, vs, rfl, rfl, ex_l s g1, ex_l s g2, by rw [← e1.length, ← e2.length]; exact sz_of hl, fun p hp => ?_⟩
  have k : Wk F H (L2.upd F p (.lst (us ++ vs))) (L2.upd H p (.lst (us ++ vs))) := Wk.new s _ hp
  exact q (.ref p) _ _ k ⟨p, us ++ vs, rfl, .inl (.inl upd_same), (e1.append e2).mono k.f⟩
theorem rl_strI {i : Int} (hi : i.natAbs < 1000000) : RLd K (fun xs H Q => ∃ j, xs = [V.int j] ∧ j.natAbs.log2 < 1920 ∧ Q (.str (toString j)) H) [.int i] (.str (toString i)) := fun F H vs s r Q q => by
  obtain ⟨v, r1, rfl, e1, e2⟩ := r
  cases e1; cases e2
  refine ⟨i, rfl, ?_, q _ F H (Wk.refl s) rfl⟩
  have h1 : i.natAbs.log2 ≤ 20 := by
    by_cases z : i.natAbs = 0
    · rw [z]; decide
    · exact Nat.le_of_lt ((Nat.log2_lt z).mpr (by omega))
  omega
end
end Qw
set_option maxHeartbeats 400000
namespace Qw
open PySem PySem.Spec PyProof.Rows L2
open Evl hiding ea_cons
open Pw (Dt Rp RpL Wk R2d R1d RLd RLn Kq KqL)
theorem first_at {α : Type} {p : α → Bool} : ∀ {l : List α} {a : α}, l.find? p = some a → ∃ i, l[i]? = some a ∧ p a = true ∧ ∀ (j : Nat) x, j < i → l[j]? = some x → p x = false
  | [], _, h => by simp at h
  | b :: l, a, h => by
    rw [List.find?_cons] at h
    cases hb : p b with
    | true =>
      rw [hb] at h
      cases h
      exact ⟨0, rfl, hb, fun j x hj => absurd hj (Nat.not_lt_zero j)⟩
    | false =>
      rw [hb] at h
      obtain ⟨i, h1, h2, h3⟩ := first_at h
      refine ⟨i + 1, h1, h2, fun j x hj hx => ?_⟩
      cases j with
      | zero => cases hx; exact hb
      | succ j => exact h3 j x (by omega) hx
section
variable {P : Program} {w : World} {K : PySem.W.Frag} {env : En}
theorem se_first {α : Type} {wi : TI} {g : TG} {tb s2 : TS} {o : Out} (xs : List α) (dec : α → Dt) (p : α → Bool) (z : α → Dt) (hI : Ip P w K wi env (xs.map dec)) (E : En) (h0 : Le env E)
    (hs : ∀ a ∈ xs, ∃ e1, Ge P w K g (dec a) E e1 ∧ (p a = true → Se P w K tb e1 (.rt (z a))) ∧ (p a = false → Se P w K tb e1 (.nc E)))
    (h2 : xs.find? p = none → Se P w K s2 E o) (h3 : ∀ a, xs.find? p = some a → o = .rt (z a)) : Se P w K (tSeq (tFor wi g tb) s2) env o := by
  cases h : xs.find? p with
  | none =>
    have hn : ∀ a ∈ xs, p a = false := fun a ha => by simpa using List.find?_eq_none.mp h a ha
    refine se_seq (se_for (ie_p hI) (fun _ => E) xs.length (by simp) h0 (fun i d hi hd => ?_) (.inl ⟨by simp, rfl⟩)) (h2 h)
    rw [List.getElem?_map] at hd
    obtain ⟨a, ha, rfl⟩ := Option.map_eq_some_iff.mp hd
    have hm := List.mem_of_getElem? ha
    obtain ⟨e1, g1, _, g3⟩ := hs a hm
    exact ⟨e1, g1, g3 (hn a hm)⟩
  | some a =>
    rw [h3 a h]
    obtain ⟨i, h1, h4, h5⟩ := first_at h
    have hi : i < xs.length := (List.getElem?_eq_some_iff.mp h1).1
    refine se_seqF (se_for (ie_p hI) (fun _ => E) i (by simp; omega) h0 (fun j d hj hd => ?_) (.inr ?_))
    · rw [List.getElem?_map] at hd
      obtain ⟨x, hx, rfl⟩ := Option.map_eq_some_iff.mp hd
      obtain ⟨e1, g1, _, g3⟩ := hs x (List.mem_of_getElem? hx)
      exact ⟨e1, g1, g3 (h5 j x hj hx)⟩
    · obtain ⟨e1, g1, g2, _⟩ := hs a (List.mem_of_getElem? h1)
      exact ⟨dec a, e1, by rw [List.getElem?_map, h1]; rfl, g1, .inl ⟨rfl, (fun _ z => nomatch z), (fun _ z => nomatch z), g2 h4⟩⟩
end
end Qw
set_option maxHeartbeats 400000
namespace Qw
open PySem PySem.Spec PyProof.Rows L2
open Evl hiding ea_cons
open Pw (Dt Rp RpL Wk R2d R1d RLd RLn Kq KqL)
section
variable {P : Program} {w : World} {K : PySem.W.Frag} {env : En} {te : TE} {tl th : TO}
def cutD (ds : List Dt) (lo hi : Option Int) : List Dt := (ds.drop (HT.sIx ds.length 0 lo)).take (HT.sIx ds.length ds.length hi - HT.sIx ds.length 0 lo)
theorem ep_slT {ds : List Dt} {lo hi : Option Int} (h : Ep P w K te env (.tup ds)) (h1 : Op P w K tl env lo) (h2 : Op P w K th env hi) : Ep P w K (tSl (rSlA K) te tl th) env (.tup (cutD ds lo hi)) := fun F0 H0 F H σ S Q q =>
  h F0 H0 F H σ S _ fun v F1 H1 w1 r => h1 F0 H0 F1 H1 σ (S.wk w1) _ fun F2 H2 w2 => h2 F0 H0 F2 H2 σ ((S.wk w1).wk w2) _ fun F3 H3 w3 => by
    obtain ⟨a, vs, rfl, g1, g2⟩ := r
    have g3 := g2.mono (w2.f.trans w3.f)
    refine ⟨a, vs, rfl, ex_t (w1.s.trans (w2.h.trans w3.h)) g1, fun ⟨z1, z2⟩ => ?_, fun _ p hp => ?_⟩
    · have e : cutD ds lo hi = ds := by
        unfold cutD
        rw [g2.length, z1, z2]
        simp [← g2.length]
      rw [e] at q
      exact q (.ref a) F3 H3 ((w1.trans w2).trans w3) ⟨a, vs, rfl, ex_t (w2.f.trans w3.f) g1, g3⟩
    · have k : Wk F3 H3 (L2.upd F3 p (.tup (cutV vs lo hi))) (L2.upd H3 p (.tup (cutV vs lo hi))) := Wk.new w3.s _ hp
      refine q (.ref p) _ _ (((w1.trans w2).trans w3).trans k) ⟨p, _, rfl, SqT.of upd_same, RpL.mono k.f ?_⟩
      unfold cutD cutV
      rw [← g2.length]
      exact RpL.take _ (RpL.drop _ g3)
theorem r2_catT {ds es : List Dt} (hl : ds.length + es.length ≤ 100000) : R2d K (rCatA K) (.tup ds) (.tup es) (.tup (ds ++ es)) := fun F H x y s r1 r2 Q q => by
  obtain ⟨a, us, rfl, g1, e1⟩ := r1
  obtain ⟨b, vs, rfl, g2, e2⟩ := r2
  refine ⟨a, b, us, vs, rfl, rfl, ex_t s g1, ex_t s g2, sz_of (by rw [← e1.length, ← e2.length]; exact hl), fun z => ?_, fun _ z => ?_, fun _ _ p hp => ?_⟩
  · have : ds = [] := List.length_eq_zero_iff.mp (by rw [e1.length, z]; rfl)
    rw [this] at q
    exact q _ F H (Wk.refl s) ⟨b, vs, rfl, g2, e2⟩
  · have : es = [] := List.length_eq_zero_iff.mp (by rw [e2.length, z]; rfl)
    rw [this, List.append_nil] at q
    exact q _ F H (Wk.refl s) ⟨a, us, rfl, g1, e1⟩
  · have k : Wk F H (L2.upd F p (.tup (us ++ vs))) (L2.upd H p (.tup (us ++ vs))) := Wk.new s _ hp
    exact q (.ref p) _ _ k ⟨p, us ++ vs, rfl, SqT.of upd_same, (e1.append e2).mono k.f⟩
end
end Qw
set_option maxHeartbeats 1000000
namespace Qw
open PySem PySem.Spec PyProof.Rows L2
open Evl hiding ea_cons
open Pw (spX2)
theorem oexB_ok {K : PySem.W.Frag} {C : Addr} (h : oexB K C = true) : OexC K C := by
  unfold oexB at h
  obtain ⟨h0, h⟩ := Bool.and_eq_true_iff.mp h
  simp only [Bool.and_eq_true, decide_eq_true_eq] at h
  obtain ⟨h2, h3, h4, h5⟩ := h
  refine ⟨?_, h2, h3, h4, h5⟩
  split at h0
  · rename_i dd cd sl ho
    split at h0
    · rename_i C' bm k0 k1 k2 k3 n k5 hm hs
      simp only [Bool.and_eq_true, beq_iff_eq, Bool.not_eq_true'] at h0
      obtain ⟨rfl, rfl, hdel, hdict, hv⟩ := h0
      obtain ⟨nm, bs, mro, ns, qn, hd, sn, sub, ab, col, del⟩ := cd
      obtain ⟨l⟩ := sl
      dsimp only at hm hdel hdict hs
      subst hm hdel hdict hs
      exact ⟨nm, qn, ns, bs, bm, sn, sub, ab, col, dd, k0, k1, k2, k3, k5, ho, hv⟩
    · cases h0
  · cases h0
section
variable {P : Program} {w : World} {K : PySem.W.Frag} {mg : Str → Option Value} {base : Heap} {R : List Pw.Dt → Rs → Prop}
theorem init2c {C fI : Addr} {fd : FuncData} {qual f1 f2 g1 g2 : Str} {params : Arguments} {body : List Stmt} {scope : Scope} (F : FunD K "__init__" qual params body scope [] [] fI fd) (S : FnScope [("self" : Str), g1, g2] [("self" : Str), g1, g2] scope)
    (T : OexC K C) (n1 : PySem.W.findIn K (.ref C) f1 = some none) (n2 : PySem.W.findIn K (.ref C) f2 = some none)
    (hd : ∀ (cdv : Value) (A : Around) (outer : List Env) (s : Shared) (H : Hp) (E : XK), PSs (cxOf CX0 P w K mg base [("self" : Str), g1, g2] qual scope fI cdv A outer s H E) body (tSeq (tOst K f1 (tVar 0) (tVar 1)) (tOst K f2 (tVar 0) (tVar 2)))) : FnOk P w K mg base CX0 1 fI fd [("self" : Str), g1, g2] (spX2 C f1 f2) := by
  refine F.ok S (fun vs H Q E h => ?_) fun cdv A outer s H vs Q E hr h => ⟨_, hd cdv A outer s H E, ?_⟩
  · obtain ⟨a, v1, v2, rfl, _⟩ := h
    rfl
  · obtain ⟨a, v1, v2, rfl, ha, q⟩ := h
    refine ⟨v1, rfl, .ref a, rfl, a, C, rfl, T, n1, .inl ⟨ha, fun dx hx ne => ?_⟩⟩
    refine ⟨v2, rfl, .ref a, rfl, a, C, rfl, T, n2, .inr ⟨dx, [(f1, v1)], upd_same, ?_, (by show 1 ≤ 900; decide), ?_⟩⟩
    · rw [upd_ne ne, upd_same]
    · refine q dx _ hx ne ?_ upd_same fun b h1 h2 => ?_
      · rw [upd_ne ne.symm, upd_same]
      · rw [upd_ne h2, upd_ne h1, upd_ne h2]
/-- the law's own def: which def it is is told -/
def FxL (P : Program) (w : World) (K : PySem.W.Frag) (mg : Str → Option Value) (base : Heap) (k : Nat) (x : Str) (ps : List Str) (sp : Sp) (st : Stmt) : Prop :=
  ∃ f fd, mg x = some (.ref f) ∧ FunD K x x (defArgs st) (defBody st) (defScope st) [] [] f fd ∧ FnOk P w K mg base (L2.CX P w) k f fd ps sp
theorem FxL.of {x : Str} {ps N : List Str} {st : Stmt} {k : Nat} (D : Dx K mg x ps st) (S : FnScope N ps (defScope st)) (hl : ∀ ds r, R ds r → ds.length = ps.length)
    (hb : ∀ (f : Addr) (cdv : Value) (A : Around) (outer : List Env) (s : Shared) (H : Hp) (E : XK), Room k (A.deeper (envOfC x (defScope st) s.heap.objs.size f cdv)) →
      ∃ t, PSs (cxOf (L2.CX P w) P w K mg base N x (defScope st) f cdv A outer s H E).nox (defBody st) t ∧ ∀ ds r, R ds r → Does P w K E t (ds.map Sl.d ++ List.replicate (N.length - ds.length) Sl.u) r) :
    FxL P w K mg base (k + 1) x ps (spR P w K R) st := by
  obtain ⟨f, fd, h1, F, h3⟩ := D
  refine ⟨f, fd, h1, F, F.ok S (fun vs H Q E h => spR_len hl vs H Q E h) fun cdv A outer s H vs Q E hr h => ?_⟩
  obtain ⟨t, ht, hs⟩ := hb f cdv A outer s H E hr
  exact ⟨t, PSs.nox ht, run_r h hs⟩
end
end Qw
set_option maxHeartbeats 400000
namespace Qw
open PySem PySem.Spec PyProof.Rows L2
def Xm1 (K : PySem.W.Frag) (mg : Str → Option Value) (x : Str) (C : Addr) : Prop :=
  mg x = some (.ref C) ∧ PySem.W.excIn K C He.veBase "ValueError.__new__" = true ∧ PySem.W.keepIn K (.ref C) = true ∧ PySem.W.subIn K (.ref C) (.type "BaseException") = some true ∧ PySem.W.typeIn K (.ref C) = some (.type "type")
theorem pm_1 {X : Cx} {x m : Str} {C : Addr} {j : Nat} {p p2 pos : Pos} (G : Xm1 X.K X.mg x C) (hg : Gl X x := by rfl) (hdb : (x == ("__debug__" : Str)) = false := by decide) :
    PMk X (.Call (.Name x p) [.Constant (.str m) j p2] [] pos) (fun _ H Q => Q (.ref C) none H) :=
  pmk_own PySem.F.excBase_ValueError G.2.1 G.1 G.2.2.1 (raises_own G.2.2.2.1 G.2.2.2.2) hg hdb
end Qw
set_option maxHeartbeats 4000000
namespace L2
open PySem PySem.Spec PyProof.Rows
theorem tuple_mulW1 (l : Addr) (items : Array Value) (n : Nat) (dd : Option Addr) (sl : Array (Option Value)) (x : Int) (u : Tok) (c0 : (decide (x < -(2 ^ 63)) || decide (x ≥ 2 ^ 63)) = false) (c1 : (items.isEmpty || x == 1) = true) :
    Meets (Builtin.«tuple.__mul__» ⟨[.ref l, .int x u], []⟩) (fun _ R s => s.heap.get? l = some { cls := .type "tuple", dict := dd, data := .seq items n, slots := sl } ∧ R (.ok (.ret (Value.ref l))) s) :=
  .of_wp fun prog w A R s h => by
    obtain ⟨hp, g, d, tk, os⟩ := s
    obtain ⟨hl, h⟩ := h
    have f1 := AutoSeq1.idx_int
    wp_walk using wpAny_loadPart' hl
    repeat (first
      | (refine wpAny_ite_false (decide_eq_false (by rw [c0]; exact Bool.false_ne_true)) ?_; wp_walk using wpAny_loadPart' hl)
      | (refine wpAny_ite_true (decide_eq_true c1) ?_; wp_walk using wpAny_loadPart' hl))
    exact ⟨_, rfl, h⟩
theorem tuple_mulW0 (l : Addr) (items : Array Value) (n : Nat) (dd : Option Addr) (sl : Array (Option Value)) (x : Int) (u : Tok) (c0 : (decide (x < -(2 ^ 63)) || decide (x ≥ 2 ^ 63)) = false) (c1 : (items.isEmpty || x == 1) = false) (c2 : (decide (x ≤ 0) || items.isEmpty) = true) :
    Meets (Builtin.«tuple.__mul__» ⟨[.ref l, .int x u], []⟩) (fun _ R s => s.heap.get? l = some { cls := .type "tuple", dict := dd, data := .seq items n, slots := sl } ∧
      R (.ok (.ret (Value.ref s.heap.objs.size))) { s with heap := s.heap.push { cls := Value.type "tuple", data := Data.seq #[] }, toks := s.toks }) :=
  .of_wp fun prog w A R s h => by
    obtain ⟨hp, g, d, tk, os⟩ := s
    obtain ⟨hl, h⟩ := h
    have f1 := AutoSeq1.idx_int
    wp_walk using wpAny_loadPart' hl
    repeat (first
      | (refine wpAny_ite_false (decide_eq_false (by rw [c0]; exact Bool.false_ne_true)) ?_; wp_walk using wpAny_loadPart' hl)
      | (refine wpAny_ite_false (decide_eq_false (by rw [c1]; exact Bool.false_ne_true)) ?_; wp_walk using wpAny_loadPart' hl)
      | (refine wpAny_ite_true (decide_eq_true c2) ?_; wp_walk using wpAny_loadPart' hl))
    exact ⟨_, rfl, h⟩
/-- t * k, k from 0 to 1000 -/
def rRepA (K : PySem.W.Frag) : R2 := fun x y H Q => ∃ l k xs, x = .ref l ∧ y = .int k ∧ SqT K H l xs ∧ xs ≠ [] ∧ 0 ≤ k ∧ k ≤ 1000 ∧ xs.length ≤ 1000 ∧ (k = 1 → Q (.ref l) H) ∧ (k ≠ 1 → ∀ p, H p = none → Q (.ref p) (upd H p (.tup (List.replicate k.toNat xs).flatten)))
section
variable {X : Cx}
theorem op_repA : OpR X (binaryOp .Mult) (rRepA X.K) := by
  intro pins s σ H x y v u Q I rx ry h
  obtain ⟨l, k, xs, rfl, rfl, hT, hne, h1, h2, hz, q1, q2⟩ := h
  by_cases hk : 2 ≤ k
  · exact op_repT pins s σ H _ _ v u Q I rx ry ⟨l, k, xs, rfl, rfl, hT, hne, hk, h2, hz, q2 (by omega)⟩
  cases rx
  obtain ⟨t, rfl⟩ := ry
  obtain ⟨its, r, ⟨⟨cls, dd, data, sl⟩, ho, hc, n, hd⟩, hs⟩ := I.tuple hT
  simp only at hc hd
  subst hc hd
  have hle : its.length = xs.length := r.length.symm
  have hn : its ≠ [] := fun e => hne (by
    rw [e] at hle
    exact List.eq_nil_of_length_eq_zero hle.symm)
  have hi : its.toArray.isEmpty = false := by
    cases its with
    | nil => exact absurd rfl hn
    | cons a b => rfl
  have c0 : (decide (k < -(2 ^ 63)) || decide (k ≥ 2 ^ 63)) = false := by
    rw [decide_eq_false (by omega), decide_eq_false (by omega)] <;> rfl
  by_cases hk1 : k = 1
  · have c1 : (its.toArray.isEmpty || k == 1) = true := by rw [hi, Bool.false_or, hk1]; rfl
    exact wpAny_binaryOp_repeat_ref (T := "tuple") (U := "int") (by decide) ⟨_, ho, rfl⟩ (fun s' => typeIs_int s' k t) noFill_tuple_mul F.fills_int_mul F.slot_int_rmul repeat_tuple F.slot_int_index.lookup
      (call_meets F.slot_int_rmul (typeIs_int s k t) F.entry_int_rmul (F.args_int_rmul_2 _ _) (int_rmul_tuple k t l its.toArray n dd sl)
        ⟨ho, rfl, ⟨_, ho, rfl⟩, call_meets F.slot_tuple_mul ⟨_, ho, rfl⟩ F.entry_tuple_mul (F.args_tuple_mul_2 _ _) (tuple_mulW1 l its.toArray n dd sl k t c0 c1) ⟨ho, .ref l, H, I, rfl, q1 hk1⟩⟩)
  · have hk0 : k = 0 := by omega
    have c1 : (its.toArray.isEmpty || k == 1) = false := by
      rw [hi, Bool.false_or]
      exact beq_eq_false_iff_ne.mpr (by omega)
    have c2 : (decide (k ≤ 0) || its.toArray.isEmpty) = true := by rw [decide_eq_true (by omega)]; rfl
    refine wpAny_binaryOp_repeat_ref (T := "tuple") (U := "int") (by decide) ⟨_, ho, rfl⟩ (fun s' => typeIs_int s' k t) noFill_tuple_mul F.fills_int_mul F.slot_int_rmul repeat_tuple F.slot_int_index.lookup
      (call_meets F.slot_int_rmul (typeIs_int s k t) F.entry_int_rmul (F.args_int_rmul_2 _ _) (int_rmul_tuple k t l its.toArray n dd sl)
        ⟨ho, rfl, ⟨_, ho, rfl⟩, call_meets F.slot_tuple_mul ⟨_, ho, rfl⟩ F.entry_tuple_mul (F.args_tuple_mul_2 _ _) (tuple_mulW0 l its.toArray n dd sl k t c0 c1 c2) ⟨ho, ?_⟩⟩)
    have e : (List.replicate k.toNat xs).flatten = [] := by rw [hk0]; rfl
    refine ⟨.ref s.heap.objs.size, _, I.laid (t' := s.toks) (o := .tup (List.replicate k.toNat xs).flatten) (fun b ob q => Heap.get?_push_of_some _ q) (Nat.le_refl _) ?_, rfl, q2 hk1 _ (I.hok.fresh (Nat.le_refl _))⟩
    rw [e]
    exact ⟨Nat.zero_le _, [], .nil, IsTup.new _ _⟩
end
end L2
set_option maxHeartbeats 1000000
namespace Mw
open PySem PySem.Spec PyProof.Rows L2 Qw
open Evl hiding ea_cons
open Pw (Dt Rp RpL Wk R2d R1d RLd RLn Kq KqL none_sub)
/-- an exception: its class by name -/
structure Exn where
  C : Str
  fs : List Str
  ds : List Dt
def Exn.xn (K : PySem.W.Frag) (e : Exn) : Xn := ⟨He.ga K e.C, e.fs, e.ds⟩
inductive R (α : Type) where
  | ok (a : α) | ex (x : Exn) | no
namespace R
variable {α β γ σ : Type}
def bind : R α → (α → R β) → R β
  | .ok a, f => f a
  | .ex x, _ => .ex x
  | .no, _ => .no
def bind2 : R (α × σ) → (α → σ → R β) → R β
  | .ok p, f => f p.1 p.2
  | .ex x, _ => .ex x
  | .no, _ => .no
def nox : R α → R α
  | .ok a => .ok a
  | _ => .no
def need (c : Prop) [Decidable c] (m : R α) : R α := if c then m else .no
@[simp] theorem bind_ok {a : α} {f : α → R β} : (R.ok a).bind f = f a := rfl
@[simp] theorem bind_ex {x : Exn} {f : α → R β} : (R.ex x).bind f = .ex x := rfl
@[simp] theorem bind_no {f : α → R β} : (R.no).bind f = .no := rfl
@[simp] theorem bind2_ok {a : α} {s : σ} {f : α → σ → R β} : (R.ok (a, s)).bind2 f = f a s := rfl
@[simp] theorem nox_ok {a : α} : (R.ok a).nox = .ok a := rfl
theorem bind_of {m : R α} {f : α → R β} {b : β} (h : m.bind f = .ok b) : ∃ a, m = .ok a ∧ f a = .ok b := by
  cases m with
  | ok a => exact ⟨a, rfl, h⟩
  | ex x => cases h
  | no => cases h
theorem need_pos {c : Prop} [Decidable c] {m : R α} (h : c) : need c m = m := if_pos h
end R
/-- how a block ends -/
inductive Ctl (σ τ β : Type) where
  | nx (s : σ) | ct (t : τ) | bk (t : τ) | rt (b : β)
namespace R
variable {α β γ σ σ' τ : Type}
/-- then .. -/
def bindC : R (Ctl σ τ β) → (σ → R (Ctl σ' τ β)) → R (Ctl σ' τ β)
  | .ok (.nx s), f => f s
  | .ok (.ct t), _ => .ok (.ct t)
  | .ok (.bk t), _ => .ok (.bk t)
  | .ok (.rt b), _ => .ok (.rt b)
  | .ex x, _ => .ex x
  | .no, _ => .no
@[simp] theorem bindC_nx {s : σ} {f : σ → R (Ctl σ' τ β)} : (R.ok (.nx s)).bindC f = f s := rfl
@[simp] theorem bindC_rt {b : β} {f : σ → R (Ctl σ' τ β)} : (R.ok (.rt b)).bindC f = .ok (.rt b) := rfl
@[simp] theorem bindC_ct {t : τ} {f : σ → R (Ctl σ' τ β)} : (R.ok (.ct t)).bindC f = .ok (.ct t) := rfl
@[simp] theorem bindC_bk {t : τ} {f : σ → R (Ctl σ' τ β)} : (R.ok (.bk t)).bindC f = .ok (.bk t) := rfl
@[simp] theorem bindC_ex {x : Exn} {f : σ → R (Ctl σ' τ β)} : (R.ex x).bindC f = .ex x := rfl
/-- what a def's body gives -/
def fin : R (Ctl σ τ β) → R β
  | .ok (.rt b) => .ok b
  | .ex x => .ex x
  | _ => .no
/-- .. a def that gives None -/
def finU : R (Ctl σ τ Unit) → R Unit
  | .ok (.rt b) => .ok b
  | .ok (.nx _) => .ok ()
  | .ex x => .ex x
  | _ => .no
@[simp] theorem fin_rt {b : β} : (R.ok (.rt b) : R (Ctl σ τ β)).fin = .ok b := rfl
@[simp] theorem fin_ex {x : Exn} : (R.ex x : R (Ctl σ τ β)).fin = .ex x := rfl
@[simp] theorem finU_rt {b : Unit} : (R.ok (.rt b) : R (Ctl σ τ Unit)).finU = .ok () := rfl
@[simp] theorem finU_nx {s : σ} : (R.ok (.nx s) : R (Ctl σ τ Unit)).finU = .ok () := rfl
@[simp] theorem finU_ex {x : Exn} : (R.ex x : R (Ctl σ τ Unit)).finU = .ex x := rfl
/-- a for -/
def forR : List α → σ → (σ → α → R (Ctl σ σ β)) → R (Ctl σ τ β)
  | [], s, _ => .ok (.nx s)
  | a :: r, s, f => match f s a with
    | .ok (.nx s') => forR r s' f
    | .ok (.ct s') => forR r s' f
    | .ok (.bk s') => .ok (.nx s')
    | .ok (.rt b) => .ok (.rt b)
    | .ex x => .ex x
    | .no => .no
/-- [f a for a in xs if t a] -/
def lcG : List α → (α → R Bool) → (α → R β) → R (List β)
  | [], _, _ => .ok []
  | a :: r, t, f => (t a).bind fun b => if b = true then (f a).bind fun y => (lcG r t f).bind fun l => .ok (y :: l) else lcG r t f
def lcR (xs : List α) (t : α → R Bool) (f : α → R β) : R (List β) := need (xs.length ≤ 40000) (lcG xs t f)
/-- .. the state s goes along -/
def lcGS : List α → σ → (α → σ → R (Bool × σ)) → (α → σ → R (β × σ)) → R (List β × σ)
  | [], s, _, _ => .ok ([], s)
  | a :: r, s, t, f => (t a s).bind2 fun b s1 => if b = true then (f a s1).bind2 fun y s2 => (lcGS r s2 t f).bind2 fun l s3 => .ok (y :: l, s3) else lcGS r s1 t f
def lcS (xs : List α) (s : σ) (t : α → σ → R (Bool × σ)) (f : α → σ → R (β × σ)) : R (List β × σ) := need (xs.length ≤ 40000) (lcGS xs s t f)
/-- .. where the parts are known on the list alone -/
theorem lcG_on {p : α → Bool} {v : α → β} {t : α → R Bool} {f : α → R β} : ∀ {xs : List α}, (∀ a ∈ xs, t a = .ok (p a)) → (∀ a ∈ xs, p a = true → f a = .ok (v a)) → lcG xs t f = .ok ((xs.filter p).map v)
  | [], _, _ => rfl
  | a :: r, ht, hf => by
    unfold lcG
    rw [lcG_on (fun b hb => ht b (List.mem_cons_of_mem _ hb)) (fun b hb => hf b (List.mem_cons_of_mem _ hb)), ht a List.mem_cons_self]
    cases h : p a
    · simp [h]
    · simp [h, hf a List.mem_cons_self h]
theorem lcR_on {p : α → Bool} {v : α → β} {t : α → R Bool} {f : α → R β} {xs : List α} (h : xs.length ≤ 40000) (ht : ∀ a ∈ xs, t a = .ok (p a)) (hf : ∀ a ∈ xs, p a = true → f a = .ok (v a)) : lcR xs t f = .ok ((xs.filter p).map v) := by
  rw [lcR, need_pos h, lcG_on ht hf]
theorem lcR_mapOn {v : α → β} {f : α → R β} {xs : List α} (h : xs.length ≤ 40000) (hf : ∀ a ∈ xs, f a = .ok (v a)) : lcR xs (fun _ => .ok true) f = .ok (xs.map v) := by
  rw [lcR_on (p := fun _ => true) h (fun _ _ => rfl) fun a ha _ => hf a ha, List.filter_eq_self.mpr (fun _ _ => rfl)]
theorem forR_nx {f : σ → α → R (Ctl σ σ β)} {s s' : σ} {a : α} {r : List α} (h : f s a = .ok (.nx s')) : (forR (a :: r) s f : R (Ctl σ τ β)) = forR r s' f := by
  rw [forR, h]
theorem forR_ct {f : σ → α → R (Ctl σ σ β)} {s s' : σ} {a : α} {r : List α} (h : f s a = .ok (.ct s')) : (forR (a :: r) s f : R (Ctl σ τ β)) = forR r s' f := by
  rw [forR, h]
theorem forR_bk {f : σ → α → R (Ctl σ σ β)} {s s' : σ} {a : α} {r : List α} (h : f s a = .ok (.bk s')) : (forR (a :: r) s f : R (Ctl σ τ β)) = .ok (.nx s') := by
  rw [forR, h]
theorem forR_rt {f : σ → α → R (Ctl σ σ β)} {s : σ} {a : α} {b : β} {r : List α} (h : f s a = .ok (.rt b)) : (forR (a :: r) s f : R (Ctl σ τ β)) = .ok (.rt b) := by
  rw [forR, h]
end R
abbrev eI : Int → Dt := Dt.int
abbrev eB : Bool → Dt := Dt.bl
abbrev eS : Str → Dt := Dt.str
abbrev eU : Unit → Dt := fun _ => .non
abbrev eD : Dt → Dt := fun d => d
section
variable {α β γ δ : Type}
abbrev eL (e : α → Dt) : List α → Dt := fun xs => .lst (xs.map e)
abbrev eT (e : α → Dt) : List α → Dt := fun xs => .tup (xs.map e)
abbrev eP2 (e1 : α → Dt) (e2 : β → Dt) : α × β → Dt := fun p => .tup [e1 p.1, e2 p.2]
abbrev eP3 (e1 : α → Dt) (e2 : β → Dt) (e3 : γ → Dt) : α × β × γ → Dt := fun p => .tup [e1 p.1, e2 p.2.1, e3 p.2.2]
abbrev eP4 (e1 : α → Dt) (e2 : β → Dt) (e3 : γ → Dt) (e4 : δ → Dt) : α × β × γ × δ → Dt := fun p => .tup [e1 p.1, e2 p.2.1, e3 p.2.2.1, e4 p.2.2.2]
def eO (e : α → Dt) : Option α → Dt
  | none => .non
  | some a => e a
abbrev oL (e : α → Dt) : List α → Ow := fun xs => .lst (xs.map e)
end
section
variable (P : Program) (w : World) (K : PySem.W.Frag) (W : WX) (eX : En)
def ErA (ta : TA) (env : En) (x : Xn) (env' : En) : Prop := ∀ F0 H0 F H σ, Sm P w K F0 H0 F H σ env → ∀ Q : List V → Hp → Prop, (∀ od F' H', Ex F F' → Sm P w K F0 H0 F' H' σ env' → XnOk K F' x od → W (.ref x.C) od σ H') → ta σ H Q
def ErT (tt : TT) (env : En) (x : Xn) (env' : En) : Prop := ∀ F0 H0 F H σ, Sm P w K F0 H0 F H σ env → ∀ Q : Bool → Hp → Prop, (∀ od F' H', Ex F F' → Sm P w K F0 H0 F' H' σ env' → XnOk K F' x od → W (.ref x.C) od σ H') → tt σ H Q
def ErI (wi : TI) (env : En) (x : Xn) (env' : En) : Prop := ∀ F0 H0 F H σ, Sm P w K F0 H0 F H σ env → ∀ Q : It → Hp → Prop, (∀ od F' H', Ex F F' → Sm P w K F0 H0 F' H' σ env' → XnOk K F' x od → W (.ref x.C) od σ H') → wi σ H Q
variable {α σ : Type}
/-- pure -/
def Xp (te : TE) (env : En) (m : R α) (d : α → Dt) : Prop := match m with
  | .ok a => Ep P w K te env (d a)
  | .ex x => Er P w K W te env (x.xn K) eX
  | .no => True
def Xo (te : TE) (env : En) (m : R α) (u : α → Ow) : Prop := match m with
  | .ok a => EpO P w K te env (u a)
  | .ex x => Er P w K W te env (x.xn K) eX
  | .no => True
def Xa (ta : TA) (env : En) (m : R α) (d : α → List Dt) : Prop := match m with
  | .ok a => EpA P w K ta env (d a)
  | .ex x => ErA P w K W ta env (x.xn K) eX
  | .no => True
def Xt (tt : TT) (env : En) (m : R Bool) : Prop := match m with
  | .ok b => Tp P w K tt env b
  | .ex x => ErT P w K W tt env (x.xn K) eX
  | .no => True
def Xi (wi : TI) (env : En) (m : R (List α)) (d : α → Dt) : Prop := match m with
  | .ok xs => Ip P w K wi env (xs.map d)
  | .ex x => ErI P w K W wi env (x.xn K) eX
  | .no => True
/-- .. and what is one's own may change -/
def Ye (te : TE) (env : En) (m : R (α × σ)) (d : α → Dt) (en : σ → En) : Prop := match m with
  | .ok p => Ee P w K te env (d p.1) (en p.2)
  | .ex x => Er P w K W te env (x.xn K) eX
  | .no => True
def Yo (te : TE) (env : En) (m : R (α × σ)) (u : α → Ow) (en : σ → En) : Prop := match m with
  | .ok p => EnO P w K te env (u p.1) (en p.2)
  | .ex x => Er P w K W te env (x.xn K) eX
  | .no => True
def Ya (ta : TA) (env : En) (m : R (α × σ)) (d : α → List Dt) (en : σ → En) : Prop := match m with
  | .ok p => EeA P w K ta env (d p.1) (en p.2)
  | .ex x => ErA P w K W ta env (x.xn K) eX
  | .no => True
def Yt (tt : TT) (env : En) (m : R (Bool × σ)) (en : σ → En) : Prop := match m with
  | .ok p => Te P w K tt env p.1 (en p.2)
  | .ex x => ErT P w K W tt env (x.xn K) eX
  | .no => True
def IeW (wi : TI) (env : En) (ds : List Dt) (env' : En) : Prop := Sh env env' ∧ ∀ F0 H0 F H σ, Sm P w K F0 H0 F H σ env → ∀ R : It → Hp → Prop, (∀ J F' H', Wo σ env F H F' H' → Sm P w K F0 H0 F' H' σ env' → Pw.Wl K F' J ds → R J H') → wi σ H R
def Yi (wi : TI) (env : En) (m : R (List α × σ)) (d : α → Dt) (en : σ → En) : Prop := match m with
  | .ok p => IeW P w K wi env (p.1.map d) (en p.2)
  | .ex x => ErI P w K W wi env (x.xn K) eX
  | .no => True
/-- a block: eN its end, eL the loop around it, out what it gives -/
def Sx {τ β : Type} (eL : τ → En) (out : β → Out) (s : TS) (env : En) (m : R (Ctl σ τ β)) (eN : σ → En) : Prop := match m with
  | .ok (.nx a) => Se P w K s env (.nx (eN a))
  | .ok (.ct t) => Se P w K s env (.ct (eL t))
  | .ok (.bk t) => Se P w K s env (.bk (eL t))
  | .ok (.rt b) => Se P w K s env (out b)
  | .ex x => Se P w K s env (.rz W (x.xn K) eX)
  | .no => True
/-- operations -/
def R2m {γ : Type} (r : R2) (d e : Dt) (m : R γ) (z : γ → Dt) : Prop := match m with
  | .ok c => R2d K r d e (z c)
  | .ex _ => False
  | .no => True
end
section
variable {P : Program} {w : World} {K : PySem.W.Frag} {W : WX} {eX : En} {α β γ δ σ σ' τ ρ : Type} {env env1 env2 : En} {ta tb te tc : TE} {tt tu : TT} {tA tr : TA} {wi : TI} {r : R2}
theorem iew_p {ds : List Dt} (h : Ip P w K wi env ds) : IeW P w K wi env ds env := ⟨Sh.refl, fun F0 H0 F H σ S R q => h F0 H0 F H σ S R fun J F' H' k W => q J F' H' (.of k) (S.wk k) W⟩
theorem er_op1 {x : Xn} (h : Er P w K W ta env x eX) : Er P w K W (tOp r ta tb) env x eX := fun F0 H0 F H σ S Q q => h F0 H0 F H σ S _ q
theorem er_op2 {x : Xn} {d : Dt} (ha : Ep P w K ta env d) (h : Er P w K W tb env x eX) : Er P w K W (tOp r ta tb) env x eX := fun F0 H0 F H σ S Q q => ha F0 H0 F H σ S _ fun v F1 H1 k _ => h F0 H0 F1 H1 σ (S.wk k) _ fun od F2 H2 e => q od F2 H2 (k.f.trans e)
theorem er_op2e {x : Xn} {d : Dt} (ha : Ee P w K ta env d env1) (h : Er P w K W tb env1 x eX) : Er P w K W (tOp r ta tb) env x eX := fun F0 H0 F H σ S Q q => ha.2 F0 H0 F H σ S _ fun v F1 H1 k S1 _ => h F0 H0 F1 H1 σ S1 _ fun od F2 H2 e => q od F2 H2 (k.f.trans e)
theorem er_cb {rr : List V → Hp → VK → Prop} {x : Xn} (h : ErA P w K W tA env x eX) : Er P w K W (tCB rr tA) env x eX := fun F0 H0 F H σ S Q q => h F0 H0 F H σ S _ q
theorem er_tup {x : Xn} (h : ErA P w K W tA env x eX) : Er P w K W (tTup tA) env x eX := fun F0 H0 F H σ S Q q => h F0 H0 F H σ S _ q
theorem er_lst {x : Xn} (h : ErA P w K W tA env x eX) : Er P w K W (tLst tA) env x eX := fun F0 H0 F H σ S Q q => h F0 H0 F H σ S _ q
theorem er_call {sp : Sp} {dvs : List V} {E : XK} {x : Xn} (h : ErA P w K W tA env x eX) : Er P w K W (tCall sp dvs E tA) env x eX := fun F0 H0 F H σ S Q q => h F0 H0 F H σ S _ q
theorem er_callSA {sp : Sp} {E : L2.St → XK} {x : Xn} (h : ErA P w K W tA env x eX) : Er P w K W (tCallS sp E tA) env x eX := fun F0 H0 F H σ S Q q => h F0 H0 F H σ S _ q
theorem era_1 {x : Xn} (h : Er P w K W te env x eX) : ErA P w K W (tCons te tr) env x eX := fun F0 H0 F H σ S Q q => h F0 H0 F H σ S _ q
theorem era_2 {x : Xn} {d : Dt} (ha : Ep P w K te env d) (h : ErA P w K W tr env x eX) : ErA P w K W (tCons te tr) env x eX := fun F0 H0 F H σ S Q q => ha F0 H0 F H σ S _ fun v F1 H1 k _ => h F0 H0 F1 H1 σ (S.wk k) _ fun od F2 H2 e => q od F2 H2 (k.f.trans e)
theorem era_2e {x : Xn} {d : Dt} (ha : Ee P w K te env d env1) (h : ErA P w K W tr env1 x eX) : ErA P w K W (tCons te tr) env x eX := fun F0 H0 F H σ S Q q => ha.2 F0 H0 F H σ S _ fun v F1 H1 k S1 _ => h F0 H0 F1 H1 σ S1 _ fun od F2 H2 e => q od F2 H2 (k.f.trans e)
theorem ert_test {x : Xn} (h : Er P w K W te env x eX) : ErT P w K W (tTest te) env x eX := fun F0 H0 F H σ S Q q => h F0 H0 F H σ S _ q
theorem ert_B {x : Xn} (h : Er P w K W te env x eX) : ErT P w K W (tB te) env x eX := fun F0 H0 F H σ S Q q => h F0 H0 F H σ S _ q
theorem ert_not {x : Xn} (h : ErT P w K W tt env x eX) : ErT P w K W (tNot tt) env x eX := fun F0 H0 F H σ S Q q => h F0 H0 F H σ S _ q
theorem ert_and1 {x : Xn} (h : ErT P w K W tt env x eX) : ErT P w K W (tAnd tt tu) env x eX := fun F0 H0 F H σ S Q q => h F0 H0 F H σ S _ q
theorem ert_or1 {x : Xn} (h : ErT P w K W tt env x eX) : ErT P w K W (tOr tt tu) env x eX := fun F0 H0 F H σ S Q q => h F0 H0 F H σ S _ q
theorem ert_and2 {x : Xn} (ha : Tp P w K tt env true) (h : ErT P w K W tu env x eX) : ErT P w K W (tAnd tt tu) env x eX := fun F0 H0 F H σ S Q q => ha F0 H0 F H σ S _ fun F1 H1 k => by
  show tu σ H1 Q
  exact h F0 H0 F1 H1 σ (S.wk k) _ fun od F2 H2 e => q od F2 H2 (k.f.trans e)
theorem ert_or2 {x : Xn} (ha : Tp P w K tt env false) (h : ErT P w K W tu env x eX) : ErT P w K W (tOr tt tu) env x eX := fun F0 H0 F H σ S Q q => ha F0 H0 F H σ S _ fun F1 H1 k => by
  show tu σ H1 Q
  exact h F0 H0 F1 H1 σ (S.wk k) _ fun od F2 H2 e => q od F2 H2 (k.f.trans e)
section
variable {da : α → Dt} {db : β → Dt} {dz : γ → Dt}
theorem xp_v {v : α} (h : Ep P w K te env (da v)) : Xp P w K W eX te env (.ok v) da := h
theorem xp_opVV {d e : Dt} {m : R γ} (ha : Ep P w K ta env d) (hb : Ep P w K tb env e) (hr : R2m K r d e m dz) : Xp P w K W eX (tOp r ta tb) env m dz := by
  cases m with
  | ok c => exact ep_op ha hb hr
  | ex x => exact False.elim hr
  | no => trivial
theorem xp_opMV {e : Dt} {ma : R α} {m : α → R γ} (ha : Xp P w K W eX ta env ma da) (hb : Ep P w K tb env e) (hr : ∀ a, R2m K r (da a) e (m a) dz) : Xp P w K W eX (tOp r ta tb) env (ma.bind m) dz := by
  cases ma with
  | ok a => exact xp_opVV ha hb (hr a)
  | ex x => exact er_op1 ha
  | no => trivial
theorem xp_opVM {d : Dt} {mb : R β} {m : β → R γ} (ha : Ep P w K ta env d) (hb : Xp P w K W eX tb env mb db) (hr : ∀ b, R2m K r d (db b) (m b) dz) : Xp P w K W eX (tOp r ta tb) env (mb.bind m) dz := by
  cases mb with
  | ok b => exact xp_opVV ha hb (hr b)
  | ex x => exact er_op2 ha hb
  | no => trivial
theorem xp_opMM {ma : R α} {mb : R β} {m : α → β → R γ} (ha : Xp P w K W eX ta env ma da) (hb : Xp P w K W eX tb env mb db) (hr : ∀ a b, R2m K r (da a) (db b) (m a b) dz) : Xp P w K W eX (tOp r ta tb) env (ma.bind fun a => mb.bind fun b => m a b) dz := by
  cases ma with
  | ok a => exact xp_opVM (m := fun b => m a b) ha hb (hr a)
  | ex x => exact er_op1 ha
  | no => trivial
theorem xa_v {ds : α → List Dt} {v : α} (h : EpA P w K tA env (ds v)) : Xa P w K W eX tA env (.ok v) ds := h
theorem xa_nil : Xa P w K W eX tNil env (.ok ()) (fun _ => []) := ap_nil
theorem xa_consM {ds : β → List Dt} {ma : R α} {mr : R β} (ha : Xp P w K W eX te env ma da) (hr : Xa P w K W eX tr env mr ds) : Xa P w K W eX (tCons te tr) env (ma.bind fun a => mr.bind fun r => .ok (a, r)) (fun p => da p.1 :: ds p.2) := by
  cases ma with
  | ok a =>
    cases mr with
    | ok r => exact ap_cons ha hr
    | ex x => exact era_2 ha hr
    | no => trivial
  | ex x => exact era_1 ha
  | no => trivial
theorem xp_tup {ds : α → List Dt} {ma : R α} {f : α → γ} (h : Xa P w K W eX tA env ma ds) (hd : ∀ a, Dt.tup (ds a) = dz (f a)) (hl : ∀ a, (ds a).length ≤ 100000 := by exact fun _ => Nat.le_of_ble_eq_true rfl) : Xp P w K W eX (tTup tA) env (ma.bind fun a => .ok (f a)) dz := by
  cases ma with
  | ok a =>
    show Ep P w K (tTup tA) env (dz (f a))
    rw [← hd a]
    exact ep_tup h (hl a)
  | ex x => exact er_tup h
  | no => trivial
theorem xo_lst {ds : α → List Dt} {ma : R α} {f : α → γ} {u : γ → Ow} (h : Xa P w K W eX tA env ma ds) (hd : ∀ a, Ow.lst (ds a) = u (f a)) (hl : ∀ a, (ds a).length ≤ 100000 := by exact fun _ => Nat.le_of_ble_eq_true rfl) : Xo P w K W eX (tLst tA) env (ma.bind fun a => .ok (f a)) u := by
  cases ma with
  | ok a =>
    show EpO P w K (tLst tA) env (u (f a))
    rw [← hd a]
    exact po_n (np_lst h (hl a))
  | ex x => exact er_lst h
  | no => trivial
/-- a new thing as data -/
theorem xp_o {m : R α} {u : α → Ow} (h : Xo P w K W eX te env m u) (hd : ∀ a, (u a).dt = some (da a)) : Xp P w K W eX te env m da := by
  cases m with
  | ok a => exact po_dt h (hd a)
  | ex x => exact h
  | no => trivial
theorem xo_v {u : α → Ow} {v : α} (h : EpO P w K te env (u v)) : Xo P w K W eX te env (.ok v) u := h
/-- the promise of a def with a mirror -/
def Got (K : PySem.W.Frag) (m : R β) (er : β → Rs) (r : Rs) : Prop := match m with
  | .ok b => r = er b
  | .ex x => r = .x (x.xn K)
  | .no => False
def RF (K : PySem.W.Frag) (ea : α → List Dt) (m : α → R β) (er : β → Rs) (ds : List Dt) (r : Rs) : Prop := ∃ a, ds = ea a ∧ Got K (m a) er r
theorem xp_call {E : XK} {ea : α → List Dt} {m : α → R γ} {er : γ → Rs} {ma : R α} (h : Xa P w K W eX tA env ma ea) (hd : ∀ c, er c = .d (dz c)) : Xp P w K W eX (tCall (spR P w K (RF K ea m er)) [] E tA) env (ma.bind fun a => (m a).nox) dz := by
  cases ma with
  | ok a =>
    show Xp P w K W eX _ env (m a).nox dz
    cases e : m a with
    | ok c => exact ep_call h ⟨a, rfl, by rw [e]; exact (hd c).symm⟩
    | ex x => trivial
    | no => trivial
  | ex x => exact er_call h
  | no => trivial
theorem xp_callX {ea : α → List Dt} {m : α → R γ} {er : γ → Rs} {ma : R α} (h : Xa P w K W eX tA env ma ea) (hd : ∀ c, er c = .d (dz c)) (hl : Le env eX) : Xp P w K W eX (tCallS (spR P w K (RF K ea m er)) (WE W) tA) env (ma.bind m) dz := by
  cases ma with
  | ok a =>
    show Xp P w K W eX _ env (m a) dz
    cases e : m a with
    | ok c => exact ep_callS h ⟨a, rfl, by rw [e]; exact (hd c).symm⟩
    | ex x => exact fun F0 H0 F H σ S Q q => er_callS h ⟨a, rfl, by rw [e]; rfl⟩ F0 H0 F H σ S Q fun od F' H' e S' => q od F' H' e (S'.le hl)
    | no => trivial
  | ex x => exact er_callSA h
  | no => trivial
theorem xo_call {E : XK} {ea : α → List Dt} {m : α → R γ} {er : γ → Rs} {u : γ → Ow} {ma : R α} (h : Xa P w K W eX tA env ma ea) (hd : ∀ c, er c = .o (u c)) : Xo P w K W eX (tCall (spR P w K (RF K ea m er)) [] E tA) env (ma.bind fun a => (m a).nox) u := by
  cases ma with
  | ok a =>
    show Xo P w K W eX _ env (m a).nox u
    cases e : m a with
    | ok c => exact po_call h ⟨a, rfl, by rw [e]; exact (hd c).symm⟩
    | ex x => trivial
    | no => trivial
  | ex x => exact er_call h
  | no => trivial
theorem xo_callX {ea : α → List Dt} {m : α → R γ} {er : γ → Rs} {u : γ → Ow} {ma : R α} (h : Xa P w K W eX tA env ma ea) (hd : ∀ c, er c = .o (u c)) (hl : Le env eX) : Xo P w K W eX (tCallS (spR P w K (RF K ea m er)) (WE W) tA) env (ma.bind m) u := by
  cases ma with
  | ok a =>
    show Xo P w K W eX _ env (m a) u
    cases e : m a with
    | ok c => exact po_callS h ⟨a, rfl, by rw [e]; exact (hd c).symm⟩
    | ex x => exact fun F0 H0 F H σ S Q q => er_callS h ⟨a, rfl, by rw [e]; rfl⟩ F0 H0 F H σ S Q fun od F' H' e S' => q od F' H' e (S'.le hl)
    | no => trivial
  | ex x => exact er_callSA h
  | no => trivial
end
theorem xt_v {b : Bool} (h : Tp P w K tt env b) : Xt P w K W eX tt env (.ok b) := h
theorem xt_test {m : R Bool} (h : Xp P w K W eX te env m eB) : Xt P w K W eX (tTest te) env m := by
  cases m with
  | ok b => exact tp_test h
  | ex x => exact ert_test h
  | no => trivial
theorem xt_B {m : R Bool} (h : Xp P w K W eX te env m eB) : Xt P w K W eX (tB te) env m := by
  cases m with
  | ok b => exact tp_B h
  | ex x => exact ert_B h
  | no => trivial
theorem xt_not {m : R Bool} (h : Xt P w K W eX tt env m) : Xt P w K W eX (tNot tt) env (m.bind fun b => .ok (!b)) := by
  cases m with
  | ok b => exact tp_not h
  | ex x => exact ert_not h
  | no => trivial
theorem xt_and {m n : R Bool} (h : Xt P w K W eX tt env m) (h2 : Xt P w K W eX tu env n) : Xt P w K W eX (tAnd tt tu) env (m.bind fun b => if b = true then n else .ok false) := by
  cases m with
  | ok b =>
    cases b with
    | true =>
      cases n with
      | ok c => exact tp_and (a := true) h fun _ => h2
      | ex x => exact ert_and2 h h2
      | no => trivial
    | false => exact tp_and (a := false) (b := true) h (fun z => nomatch z)
  | ex x => exact ert_and1 h
  | no => trivial
theorem xt_or {m n : R Bool} (h : Xt P w K W eX tt env m) (h2 : Xt P w K W eX tu env n) : Xt P w K W eX (tOr tt tu) env (m.bind fun b => if b = true then .ok true else n) := by
  cases m with
  | ok b =>
    cases b with
    | false =>
      cases n with
      | ok c => exact tp_or (a := false) h fun _ => h2
      | ex x => exact ert_or2 h h2
      | no => trivial
    | true => exact tp_or (a := true) (b := true) h (fun z => nomatch z)
  | ex x => exact ert_or1 h
  | no => trivial
end
end Mw
set_option maxHeartbeats 1000000
namespace Mw
open PySem PySem.Spec PyProof.Rows L2 Qw
open Evl hiding ea_cons
open Pw (Dt Rp RpL Wk R2d R1d RLd RLn Kq KqL none_sub spX2)
section
variable {P : Program} {w : World} {K : PySem.W.Frag} {W : WX} {eX : En} {α β γ δ σ σ' τ ρ : Type} {env env1 env2 : En} {ta tb te tc : TE} {tt tu : TT} {tA tr : TA} {wi : TI} {r : R2} {g : TG}
variable {eL : τ → En} {out : ρ → Out} {s s1 s2 s3 : TS} {eN : σ → En} {d : α → Dt} {u : α → Ow}
theorem se_lez' {x : Xn} {e1 e2 : En} (h : Se P w K s env (.rz W x e1)) (l : Le e1 e2) : Se P w K s env (.rz W x e2) := fun F0 H0 F H σ D S p => h F0 H0 F H σ D S fun od F1 H1 σ1 e1 S1 => p od F1 H1 σ1 e1 (S1.le l)
theorem sx_end {v : σ} (h : Le env (eN v)) : Sx P w K W eX eL out tNext env (.ok (.nx v)) eN := se_le se_next h
theorem sx_last {m : R (Ctl σ τ ρ)} (h : Sx P w K W eX eL out (tSeq s tNext) env m eN) : Sx P w K W eX eL out s env m eN := h
theorem sx_skip {m : R (Ctl σ τ ρ)} (h : Sx P w K W eX eL out s env m eN) : Sx P w K W eX eL out (tSeq tNext s) env m eN := h
theorem sx_seqE {m : R (Ctl σ τ ρ)} (h1 : Se P w K s1 env (.nx env1)) (h2 : Sx P w K W eX eL out s2 env1 m eN) : Sx P w K W eX eL out (tSeq s1 s2) env m eN := by
  cases m with
  | ok c => cases c <;> exact se_seq h1 h2
  | ex x => exact se_seq h1 h2
  | no => trivial
theorem sx_freeze {m : R (Ctl σ τ ρ)} (i : Nat) {t : Option Addr} {v : Ow} {dd : Dt} (hi : env[i]? = some (.ow t v)) (hd : v.dt = some dd) (h2 : Sx P w K W eX eL out s (env.set i (.d dd)) m eN) : Sx P w K W eX eL out s env m eN := by
  cases m with
  | ok c => cases c <;> exact se_freeze hi hd h2
  | ex x => exact se_freeze hi hd h2
  | no => trivial
theorem sx_asg {i : Nat} {m : R α} {k : α → R (Ctl σ τ ρ)} (h : Xp P w K W eX te env m d) (hk : ∀ a, Sx P w K W eX eL out s2 (env.set i (.d (d a))) (k a) eN) : Sx P w K W eX eL out (tSeq (tAsg te (gName i)) s2) env (m.bind k) eN := by
  cases m with
  | ok a => exact sx_seqE (se_asg (ee_p h)) (hk a)
  | ex x => exact se_seqF (se_asgX h)
  | no => trivial
theorem sx_asgG {m : R α} {k : α → R (Ctl σ τ ρ)} {en : α → En} (h : Xp P w K W eX te env m d) (hg : ∀ a, Ge P w K g (d a) env (en a)) (hk : ∀ a, Sx P w K W eX eL out s2 (en a) (k a) eN) : Sx P w K W eX eL out (tSeq (tAsg te g) s2) env (m.bind k) eN := by
  cases m with
  | ok a => exact sx_seqE (se_asgG (ee_p h) (hg a)) (hk a)
  | ex x => exact se_seqF (se_asgX h)
  | no => trivial
theorem sx_own {i : Nat} {m : R α} {k : α → R (Ctl σ τ ρ)} (h : Xo P w K W eX te env m u) (hk : ∀ a, Sx P w K W eX eL out s2 (env.set i (.ow none (u a))) (k a) eN) : Sx P w K W eX eL out (tSeq (tAsg te (gName i)) s2) env (m.bind k) eN := by
  cases m with
  | ok a => exact sx_seqE (se_own (eo_p h)) (hk a)
  | ex x => exact se_seqF (se_asgX h)
  | no => trivial
theorem sx_drop {m : R α} {k : α → R (Ctl σ τ ρ)} (h : Xp P w K W eX te env m d) (hk : ∀ a, Sx P w K W eX eL out s2 env (k a) eN) : Sx P w K W eX eL out (tSeq (tDrop te) s2) env (m.bind k) eN := by
  cases m with
  | ok a => exact sx_seqE (se_drop (ee_p h)) (hk a)
  | ex x => exact se_seqF (se_dropX h)
  | no => trivial
theorem sx_ret {d : ρ → Dt} {m : R ρ} (h : Xp P w K W eX te env m d) (ho : ∀ b, out b = .rt (d b)) : Sx P w K W eX eL out (tSeq (tRet te) s2) env (m.bind fun a => .ok (.rt a)) eN := by
  cases m with
  | ok a =>
    show Se P w K _ env (out a)
    rw [ho a]
    exact se_seqF (se_ret (ee_p h))
  | ex x => exact se_seqF (se_retX h)
  | no => trivial
theorem sx_reto {u : ρ → Ow} {m : R ρ} (h : Xo P w K W eX te env m u) (ho : ∀ b, out b = .ro (u b)) : Sx P w K W eX eL out (tSeq (tRet te) s2) env (m.bind fun a => .ok (.rt a)) eN := by
  cases m with
  | ok a =>
    show Se P w K _ env (out a)
    rw [ho a]
    exact se_seqF (se_ro (eo_p h))
  | ex x => exact se_seqF (se_retX h)
  | no => trivial
theorem sx_retV {i : Nat} {t : Option Addr} {v : Ow} {b : ρ} (h : env[i]? = some (.ow t v)) (ho : out b = .ro v) : Sx P w K W eX eL out (tSeq (tRet (tVar i)) s2) env (.ok (.rt b)) eN := by
  show Se P w K _ env (out b)
  rw [ho]
  exact se_seqF (se_roV h)
theorem sx_raise0 {C : Str} (l : Le env eX) : Sx P w K W eX eL out (tSeq (fun _ σ H => (fun (_ : L2.St) (H : Hp) (Q : XK) => Q (.ref (He.ga K C)) none H) σ H fun cls d H' => W cls d σ H') s2) env (.ex ⟨C, [], []⟩) eN := se_seqF (se_lez' se_raise0 l)
theorem sx_if {m : R Bool} {m1 m2 : R (Ctl σ τ ρ)} (h : Xt P w K W eX tt env m) (h1 : Sx P w K W eX eL out (tSeq s1 s3) env m1 eN) (h2 : Sx P w K W eX eL out (tSeq s2 s3) env m2 eN) : Sx P w K W eX eL out (tSeq (tIfS tt s1 s2) s3) env (m.bind fun b => if b = true then m1 else m2) eN := by
  cases m with
  | ok b =>
    have key : ∀ {o : Out}, (b = true → Se P w K (tSeq s1 s3) env o) → (b = false → Se P w K (tSeq s2 s3) env o) → Se P w K (tSeq (tIfS tt s1 s2) s3) env o := fun a1 a2 => se_ifq (te_p h) a1 a2
    cases b with
    | true =>
      show Sx P w K W eX eL out _ env m1 eN
      cases m1 with
      | ok c => cases c <;> exact key (fun _ => h1) (fun z => nomatch z)
      | ex x => exact key (fun _ => h1) (fun z => nomatch z)
      | no => trivial
    | false =>
      show Sx P w K W eX eL out _ env m2 eN
      cases m2 with
      | ok c => cases c <;> exact key (fun z => nomatch z) (fun _ => h2)
      | ex x => exact key (fun z => nomatch z) (fun _ => h2)
      | no => trivial
  | ex x => exact fun F0 H0 F H σ D S p => h F0 H0 F H σ S _ fun od F1 H1 e S1 => p od F1 H1 σ e S1
  | no => trivial
theorem sx_seq {eM : σ' → En} {m1 : R (Ctl σ' τ ρ)} {k : σ' → R (Ctl σ τ ρ)} (hf : ∀ b, (out b).fin = true) (h1 : Sx P w K W eX eL out s1 env m1 eM) (hk : ∀ v, Sx P w K W eX eL out s2 (eM v) (k v) eN) : Sx P w K W eX eL out (tSeq s1 s2) env (m1.bindC k) eN := by
  cases m1 with
  | ok c =>
    cases c with
    | nx v => exact sx_seqE h1 (hk v)
    | ct v => exact se_seqF h1
    | bk v => exact se_seqF h1
    | rt b => exact se_seqF h1 (hf b)
  | ex x => exact se_seqF h1
  | no => trivial
/-- an if without an end in it: its branches join -/
theorem sx_ifj {eM : σ' → En} {m : R Bool} {m1 m2 : R (Ctl σ' τ ρ)} {k : σ' → R (Ctl σ τ ρ)} (hf : ∀ b, (out b).fin = true) (h : Xt P w K W eX tt env m) (h1 : Sx P w K W eX eL out s1 env m1 eM) (h2 : Sx P w K W eX eL out s2 env m2 eM) (hk : ∀ v, Sx P w K W eX eL out s3 (eM v) (k v) eN) : Sx P w K W eX eL out (tSeq (tIfS tt s1 s2) s3) env ((m.bind fun b => if b = true then m1 else m2).bindC k) eN :=
  sx_seq hf (sx_last (sx_if h h1 h2)) hk
def stepR (f : σ → α → R (Ctl σ σ ρ)) (v : σ) (a : α) : σ := match f v a with
  | .ok (.nx v') => v'
  | .ok (.ct v') => v'
  | _ => v
theorem stepR_eq {f : σ → α → R (Ctl σ σ ρ)} {v v' : σ} {a : α} (h : f v a = .ok (.nx v') ∨ f v a = .ok (.ct v')) : stepR f v a = v' := by
  unfold stepR
  rcases h with h | h <;> rw [h]
def goesR : R (Ctl σ σ ρ) → Bool
  | .ok (.nx _) => true
  | .ok (.ct _) => true
  | _ => false
theorem forR_runs (f : σ → α → R (Ctl σ σ ρ)) : ∀ (xs : List α) (v : σ),
    ((∀ (i : Nat) a, xs[i]? = some a → goesR (f ((xs.take i).foldl (stepR f) v) a) = true) ∧ (R.forR xs v f : R (Ctl σ τ ρ)) = .ok (.nx (xs.foldl (stepR f) v))) ∨
    ∃ (m : Nat) (a : α), xs[m]? = some a ∧ (∀ (i : Nat) b, i < m → xs[i]? = some b → goesR (f ((xs.take i).foldl (stepR f) v) b) = true) ∧
      ((∃ v', f ((xs.take m).foldl (stepR f) v) a = .ok (.bk v') ∧ (R.forR xs v f : R (Ctl σ τ ρ)) = .ok (.nx v')) ∨ (∃ b, f ((xs.take m).foldl (stepR f) v) a = .ok (.rt b) ∧ (R.forR xs v f : R (Ctl σ τ ρ)) = .ok (.rt b)) ∨
        (∃ x, f ((xs.take m).foldl (stepR f) v) a = .ex x ∧ (R.forR xs v f : R (Ctl σ τ ρ)) = .ex x) ∨ (R.forR xs v f : R (Ctl σ τ ρ)) = .no)
  | [], v => .inl ⟨fun i a h => by simp at h, rfl⟩
  | a :: xs, v => by
    have on : ∀ v', f v a = .ok (.nx v') ∨ f v a = .ok (.ct v') → (R.forR (a :: xs) v f : R (Ctl σ τ ρ)) = R.forR xs v' f ∧ stepR f v a = v' ∧ goesR (f v a) = true := by
      rintro v' (h | h)
      · exact ⟨R.forR_nx h, by rw [stepR, h], by rw [h]; rfl⟩
      · exact ⟨R.forR_ct h, by rw [stepR, h], by rw [h]; rfl⟩
    by_cases hx : ∃ v', f v a = .ok (.nx v') ∨ f v a = .ok (.ct v')
    · obtain ⟨v', h⟩ := hx
      obtain ⟨e1, e2, e3⟩ := on v' h
      have ih := forR_runs f xs v'
      rw [e1]
      rcases ih with ⟨h1, h2⟩ | ⟨m, b, h1, h2, h3⟩
      · refine Or.inl ⟨fun i b hb => ?_, by rw [h2, List.foldl_cons, e2]⟩
        cases i with
        | zero => cases hb; exact e3
        | succ i =>
          rw [List.take_succ_cons, List.foldl_cons, e2]
          exact h1 i b hb
      · refine Or.inr ⟨m + 1, b, h1, fun i c hi hc => ?_, by rw [List.take_succ_cons, List.foldl_cons, e2]; exact h3⟩
        cases i with
        | zero => cases hc; exact e3
        | succ i =>
          rw [List.take_succ_cons, List.foldl_cons, e2]
          exact h2 i c (by omega) hc
    cases e : f v a with
    | ok c =>
      cases c with
      | nx v' => exact absurd ⟨v', .inl e⟩ hx
      | ct v' => exact absurd ⟨v', .inr e⟩ hx
      | bk v' => exact .inr ⟨0, a, rfl, fun i b hi => absurd hi (Nat.not_lt_zero i), .inl ⟨v', e, R.forR_bk e⟩⟩
      | rt b => exact .inr ⟨0, a, rfl, fun i b hi => absurd hi (Nat.not_lt_zero i), .inr (.inl ⟨b, e, R.forR_rt e⟩)⟩
    | ex x => exact .inr ⟨0, a, rfl, fun i b hi => absurd hi (Nat.not_lt_zero i), .inr (.inr (.inl ⟨x, e, by rw [R.forR, e]⟩))⟩
    | no => exact .inr ⟨0, a, rfl, fun i b hi => absurd hi (Nat.not_lt_zero i), .inr (.inr (.inr (by rw [R.forR, e])))⟩
/-- what may be given out of a loop -/
def OutOk (out : ρ → Out) : Prop := ∀ b, (out b).fin = true ∧ (∀ e, out b ≠ .bk e) ∧ (∀ e, out b ≠ .ct e)
theorem sx_goes {tb : TS} {e1 : En} {eS : σ → En} {c : R (Ctl σ σ ρ)} {v : σ} (hg : goesR c = true) (h : Sx P w K W eX eS out tb e1 c eS) (hv : ∀ v', c = .ok (.nx v') ∨ c = .ok (.ct v') → v = v') : Se P w K tb e1 (.nc (eS v)) := by
  cases c with
  | ok c =>
    cases c with
    | nx v' => rw [hv v' (.inl rfl)]; exact se_nc h
    | ct v' => rw [hv v' (.inr rfl)]; exact se_cc h
    | bk v' => cases hg
    | rt b => cases hg
  | ex x => cases hg
  | no => cases hg
theorem sx_forC {tb : TS} {eS : σ → En} {f : σ → α → R (Ctl σ σ ρ)} {v0 : σ} {xs : List α} (ho : OutOk out) (hI : Ie P w K wi env (xs.map d) env1) (h0 : Le env1 (eS v0)) (hb : ∀ v a, ∃ e1, Ge P w K g (d a) (eS v) e1 ∧ Sx P w K W eX eS out tb e1 (f v a) eS) : Sx P w K W eX eL out (tFor wi g tb) env (R.forR xs v0 f) eS := by
  have hgo : ∀ (i : Nat) (a : α), xs[i]? = some a → goesR (f ((xs.take i).foldl (stepR f) v0) a) = true → ∃ e1, Ge P w K g (d a) (eS ((xs.take i).foldl (stepR f) v0)) e1 ∧ Se P w K tb e1 (.nc (eS ((xs.take (i + 1)).foldl (stepR f) v0))) := by
    intro i a ha hg
    obtain ⟨e1, g1, b1⟩ := hb ((xs.take i).foldl (stepR f) v0) a
    refine ⟨e1, g1, sx_goes hg b1 fun v' h => ?_⟩
    rw [List.take_add_one, ha, List.foldl_append]
    exact stepR_eq h
  rcases forR_runs (τ := τ) f xs v0 with ⟨h1, h2⟩ | ⟨m, a, hm, h1, h2⟩
  · rw [h2]
    refine se_for hI (fun i => eS ((xs.take i).foldl (stepR f) v0)) xs.length (by simp) h0 (fun i dd hi hd => ?_) (.inl ⟨by simp, by simp⟩)
    rw [List.getElem?_map] at hd
    obtain ⟨a, ha, rfl⟩ := Option.map_eq_some_iff.mp hd
    exact hgo i a ha (h1 i a ha)
  · have hlt : m < xs.length := (List.getElem?_eq_some_iff.mp hm).1
    obtain ⟨e1, g1, b1⟩ := hb ((xs.take m).foldl (stepR f) v0) a
    have fin : ∀ {o : Out}, ((o.fin = true ∧ (∀ e, o ≠ .bk e) ∧ (∀ e, o ≠ .ct e) ∧ Se P w K tb e1 o) ∨ ∃ e, o = .nx e ∧ Se P w K tb e1 (.bk e)) → Se P w K (tFor wi g tb) env o := fun hz =>
      se_for hI (fun i => eS ((xs.take i).foldl (stepR f) v0)) m (by simp; omega) h0 (fun i dd hi hd => by
        rw [List.getElem?_map] at hd
        obtain ⟨a, ha, rfl⟩ := Option.map_eq_some_iff.mp hd
        exact hgo i a ha (h1 i a hi ha)) (.inr ⟨d a, e1, by rw [List.getElem?_map, hm]; rfl, g1, hz⟩)
    rcases h2 with ⟨v', e, h2⟩ | ⟨b, e, h2⟩ | ⟨x, e, h2⟩ | h2
    · rw [h2]
      rw [e] at b1
      exact fin (.inr ⟨_, rfl, b1⟩)
    · rw [h2]
      rw [e] at b1
      exact fin (.inl ⟨(ho b).1, (ho b).2.1, (ho b).2.2, b1⟩)
    · rw [h2]
      rw [e] at b1
      exact fin (.inl ⟨rfl, (fun _ z => nomatch z), (fun _ z => nomatch z), b1⟩)
    · rw [h2]
      trivial
theorem sx_for {tb : TS} {eS : σ' → En} {f : σ' → α → R (Ctl σ' σ' ρ)} {v0 : σ'} {mi : R (List α)} {k : σ' → R (Ctl σ τ ρ)} (ho : OutOk out) (hI : Xi P w K W eX wi env mi d) (h0 : Le env (eS v0)) (hb : ∀ v a, ∃ e1, Ge P w K g (d a) (eS v) e1 ∧ Sx P w K W eX eS out tb e1 (f v a) eS) (hk : ∀ v, Sx P w K W eX eL out s2 (eS v) (k v) eN) : Sx P w K W eX eL out (tSeq (tFor wi g tb) s2) env (mi.bind fun xs => (R.forR xs v0 f).bindC k) eN := by
  cases mi with
  | ok xs => exact sx_seq (fun b => (ho b).1) (sx_forC ho (ie_p hI) h0 hb) hk
  | ex x => exact se_seqF (fun F0 H0 F H σ D S p => hI F0 H0 F H σ S _ fun od F1 H1 e S1 => p od F1 H1 σ e S1)
  | no => trivial
end
end Mw
set_option maxHeartbeats 1000000
namespace Mw
open PySem PySem.Spec PyProof.Rows L2 Qw
open Evl hiding ea_cons
open Pw (Dt Rp RpL Wk R2d R1d RLd RLn Kq KqL none_sub spX2 get_set set_same set_ne)
section
variable {P : Program} {w : World} {K : PySem.W.Frag} {W : WX} {eX : En} {α β γ δ σ σ' τ ρ : Type} {env env1 env2 : En} {ta tb te tc : TE} {tt tu : TT} {tA tr : TA} {wi : TI} {r : R2} {g : TG}
variable {da : α → Dt} {db : β → Dt} {dz : γ → Dt} {en en1 en2 : σ → En}
theorem ye_p {m : R α} {v : σ} (h : Xp P w K W eX te env m da) (he : env = en v) : Ye P w K W eX te env (m.bind fun a => .ok (a, v)) da en := by
  cases m with
  | ok a => exact (show Ee P w K te env (da a) (en v) from he ▸ ee_p h)
  | ex x => exact h
  | no => trivial
theorem ya_p {ds : α → List Dt} {m : R α} {v : σ} (h : Xa P w K W eX tA env m ds) (he : env = en v) : Ya P w K W eX tA env (m.bind fun a => .ok (a, v)) ds en := by
  cases m with
  | ok a => exact (show EeA P w K tA env (ds a) (en v) from he ▸ ea_p h)
  | ex x => exact h
  | no => trivial
theorem yt_p {m : R Bool} {v : σ} (h : Xt P w K W eX tt env m) (he : env = en v) : Yt P w K W eX tt env (m.bind fun a => .ok (a, v)) en := by
  cases m with
  | ok a => exact (show Te P w K tt env a (en v) from he ▸ te_p h)
  | ex x => exact h
  | no => trivial
theorem yi_p {d : α → Dt} {m : R (List α)} {v : σ} (h : Xi P w K W eX wi env m d) (he : env = en v) : Yi P w K W eX wi env (m.bind fun a => .ok (a, v)) d en := by
  cases m with
  | ok a => exact (show IeW P w K wi env (a.map d) (en v) from he ▸ iew_p h)
  | ex x => exact h
  | no => trivial
theorem ye_op {ma : R (α × σ)} {mb : σ → R (β × σ)} {mr : α → β → R γ} (ha : Ye P w K W eX ta env ma da en) (hb : ∀ v, Ye P w K W eX tb (en v) (mb v) db en) (hr : ∀ a b, R2m K r (da a) (db b) (mr a b) dz) : Ye P w K W eX (tOp r ta tb) env (ma.bind2 fun a v => (mb v).bind2 fun b v => (mr a b).bind fun z => .ok (z, v)) dz en := by
  cases ma with
  | ok p =>
    obtain ⟨a, v⟩ := p
    have hb := hb v
    show Ye P w K W eX _ env ((mb v).bind2 fun b v => (mr a b).bind fun z => .ok (z, v)) dz en
    cases e : mb v with
    | ok q =>
      obtain ⟨b, v2⟩ := q
      rw [e] at hb
      have hr := hr a b
      show Ye P w K W eX _ env ((mr a b).bind fun z => .ok (z, v2)) dz en
      cases e2 : mr a b with
      | ok z => rw [e2] at hr; exact ee_op ha hb hr
      | ex x => rw [e2] at hr; exact False.elim hr
      | no => trivial
    | ex x => rw [e] at hb; exact er_op2e ha hb
    | no => trivial
  | ex x => exact er_op1 ha
  | no => trivial
theorem ya_nil {v : σ} (he : env = en v) : Ya P w K W eX tNil env (.ok ((), v)) (fun _ => []) en := (show EeA P w K tNil env [] (en v) from he ▸ ea_p ap_nil)
theorem ya_cons {ds : β → List Dt} {ma : R (α × σ)} {mr : σ → R (β × σ)} (ha : Ye P w K W eX te env ma da en) (hr : ∀ v, Ya P w K W eX tr (en v) (mr v) ds en) : Ya P w K W eX (tCons te tr) env (ma.bind2 fun a v => (mr v).bind2 fun r v => .ok ((a, r), v)) (fun p => da p.1 :: ds p.2) en := by
  cases ma with
  | ok p =>
    obtain ⟨a, v⟩ := p
    have hr := hr v
    show Ya P w K W eX _ env ((mr v).bind2 fun r v => .ok ((a, r), v)) _ en
    cases e : mr v with
    | ok q => rw [e] at hr; exact ea_cons ha hr
    | ex x => rw [e] at hr; exact era_2e ha hr
    | no => trivial
  | ex x => exact era_1 ha
  | no => trivial
theorem ye_o {m : R (α × σ)} {u : α → Ow} (h : Yo P w K W eX te env m u en) (hd : ∀ a, (u a).dt = some (da a)) : Ye P w K W eX te env m da en := by
  cases m with
  | ok p => exact eo_dt h (hd p.1)
  | ex x => exact h
  | no => trivial
def RM (us : δ → Ow) (ea : α → List Dt) (m : δ → α → R (β × δ)) (er : β → Dt) (u : Ow) (ds : List Dt) (d : Dt) (u' : Ow) : Prop := ∃ v a, u = us v ∧ ds = ea a ∧ match m v a with
  | .ok p => d = er p.1 ∧ u' = us p.2
  | _ => False
/-- f(p, ..), the others may change p too -/
theorem ee_callM' {E : XK} {i : Nat} {Rm : Ow → List Dt → Dt → Ow → Prop} {ta' : TA} {t' : Option Addr} {u0 u u' : Ow} {ds : List Dt} {d : Dt} (h : EeA P w K ta' env ds env1) (hi0 : env[i]? = some (.ow t' u0)) (hi : env1[i]? = some (.ow t' u)) (hf : Rm u ds d u') :
    Ee P w K (tCall (spM P w K Rm) [] E (tCons (tVar i) ta')) env d (env1.set i (.ow t' u')) := ⟨h.1.trans (Sh.set hi), fun F0 H0 F H σ S Q q => by
  obtain ⟨p0, o0, e0, _⟩ := S.own hi0
  refine ⟨_, e0, h.2 F0 H0 F H σ S _ fun vs F1 H1 w1 S1 r1 => ?_⟩
  obtain ⟨p, o1, e1, g0, g1, g2, g3, g4⟩ := S1.own hi
  rw [e0] at e1
  cases e1
  refine ⟨F1, p0, vs, o1, u, ds, d, u', by rw [List.append_nil], S1.sub, g1, g3, g4, r1, hf, fun v F2 H2 o2 f2 s2 k2 n2 b2 h2 r2 rv => ?_⟩
  have kW : Wk F1 H1 F2 (L2.upd H2 p0 o1) := by
    refine ⟨f2, fun a v e => ?_, fun a v e => ?_, n2⟩
    · by_cases z : a = p0
      · subst z
        rw [g3] at e
        rw [upd_same, e]
      · rw [upd_ne z]
        exact k2 a v z e
    · by_cases z : a = p0
      · subst z
        rw [n2 a _ g3 g1] at e
        cases e
      · rw [upd_ne z]
        exact s2 a v e
  have S2 := S1.wk kW
  have e2 : L2.upd (L2.upd H2 p0 o1) p0 o2 = H2 := by
    funext a
    by_cases z : a = p0
    · subst z
      rw [upd_same, h2]
    · rw [upd_ne z, upd_ne z]
  have S3 := S2.mut hi e0 r2
  have W3 := Wo.mut (o := o2) S2 hi e0
  rw [e2] at S3 W3
  exact q v F2 H2 (w1.trans h.1 ((Wo.of kW).trans Sh.refl W3)) S3 rv⟩
theorem ye_callM {E : XK} {i : Nat} {t' : Option Addr} {us : δ → Ow} {ea : α → List Dt} {m : δ → α → R (γ × δ)} {er : γ → Dt} {ma : R (α × σ)} {get : σ → δ} {put : σ → δ → σ} {v0 : δ} (h : Ya P w K W eX tA env ma ea en) (hi0 : env[i]? = some (.ow t' (us v0))) (hi : ∀ v, (en v)[i]? = some (.ow t' (us (get v)))) (hp : ∀ v x, (en v).set i (.ow t' (us x)) = en (put v x)) : Ye P w K W eX (tCall (spM P w K (RM us ea m er)) [] E (tCons (tVar i) tA)) env (ma.bind2 fun a v => (m (get v) a).nox.bind2 fun z x => .ok (z, put v x)) er en := by
  cases ma with
  | ok p =>
    obtain ⟨a, v⟩ := p
    show Ye P w K W eX _ env ((m (get v) a).nox.bind2 fun z x => .ok (z, put v x)) er en
    cases e : m (get v) a with
    | ok c =>
      show Ee P w K _ env (er c.1) (en (put v c.2))
      rw [← hp]
      exact ee_callM' h hi0 (hi v) ⟨get v, a, rfl, rfl, by rw [e]; exact ⟨rfl, rfl⟩⟩
    | ex x => trivial
    | no => trivial
  | ex x =>
    refine fun F0 H0 F H σ S Q q => ?_
    obtain ⟨p0, o0, e0, _⟩ := S.own hi0
    exact ⟨_, e0, h F0 H0 F H σ S _ q⟩
  | no => trivial
theorem yt_test {m : R (Bool × σ)} (h : Ye P w K W eX te env m eB en) : Yt P w K W eX (tTest te) env m en := by
  cases m with
  | ok b => exact te_test h
  | ex x => exact ert_test h
  | no => trivial
theorem yt_or {m : R (Bool × σ)} {n : σ → R (Bool × σ)} (h : Yt P w K W eX tt env m en) (h2 : ∀ v, Yt P w K W eX tu (en v) (n v) en) : Yt P w K W eX (tOr tt tu) env (m.bind2 fun b v => if b = true then .ok (true, v) else n v) en := by
  cases m with
  | ok p =>
    obtain ⟨b, v⟩ := p
    cases b with
    | false =>
      have h2 := h2 v
      show Yt P w K W eX _ env (n v) en
      cases e : n v with
      | ok c => rw [e] at h2; exact te_orM h h2
      | ex x =>
        rw [e] at h2
        exact fun F0 H0 F H σ S Q q => h.2 F0 H0 F H σ S _ fun F1 H1 k S1 => (show tu σ H1 Q from h2 F0 H0 F1 H1 σ S1 _ fun od F2 H2 e => q od F2 H2 (k.f.trans e))
      | no => trivial
    | true => exact te_or (a := true) (b := true) h (fun z => nomatch z)
  | ex x => exact ert_or1 h
  | no => trivial
variable {eL : τ → En} {out : ρ → Out} {s s1 s2 s3 : TS} {eN : σ' → En} {u : α → Ow}
theorem sx_asgY {i : Nat} {m : R (α × σ)} {k : α → σ → R (Ctl σ' τ ρ)} (h : Ye P w K W eX te env m da en) (hk : ∀ a v, Sx P w K W eX eL out s2 ((en v).set i (.d (da a))) (k a v) eN) : Sx P w K W eX eL out (tSeq (tAsg te (gName i)) s2) env (m.bind2 k) eN := by
  cases m with
  | ok p => exact sx_seqE (se_asg h) (hk p.1 p.2)
  | ex x => exact se_seqF (se_asgX h)
  | no => trivial
theorem sx_ownY {i : Nat} {m : R (α × σ)} {k : α → σ → R (Ctl σ' τ ρ)} (h : Yo P w K W eX te env m u en) (hk : ∀ a v, Sx P w K W eX eL out s2 ((en v).set i (.ow none (u a))) (k a v) eN) : Sx P w K W eX eL out (tSeq (tAsg te (gName i)) s2) env (m.bind2 k) eN := by
  cases m with
  | ok p => exact sx_seqE (se_own h) (hk p.1 p.2)
  | ex x => exact se_seqF (se_asgX h)
  | no => trivial
theorem sx_dropY {m : R (α × σ)} {k : α → σ → R (Ctl σ' τ ρ)} (h : Ye P w K W eX te env m da en) (hk : ∀ a v, Sx P w K W eX eL out s2 (en v) (k a v) eN) : Sx P w K W eX eL out (tSeq (tDrop te) s2) env (m.bind2 k) eN := by
  cases m with
  | ok p => exact sx_seqE (se_drop h) (hk p.1 p.2)
  | ex x => exact se_seqF (se_dropX h)
  | no => trivial
theorem se_rteL {d : Dt} {e1 e2 : En} (h : Se P w K s env (.rte d e1)) (l : Le e1 e2) : Se P w K s env (.rte d e2) := fun F0 H0 F H σ D S p => h F0 H0 F H σ D S fun v F1 H1 σ1 e1 S1 r => p v F1 H1 σ1 e1 (S1.le l) r
/-- .. it goes back with the rest -/
theorem sx_retE {eR : σ → En} {d : ρ → Dt} {out : ρ × σ → Out} {m : R (ρ × σ)} (h : Ye P w K W eX te env m d en) (hl : ∀ v, Le (en v) (eR v)) (ho : ∀ b v, out (b, v) = .rte (d b) (eR v)) : Sx P w K W eX eL out (tSeq (tRet te) s2) env (m.bind2 fun a v => .ok (.rt (a, v))) eN := by
  cases m with
  | ok p =>
    show Se P w K _ env (out (p.1, p.2))
    rw [ho p.1 p.2]
    exact se_rteL (se_seqF (se_rte h)) (hl p.2)
  | ex x => exact se_seqF (se_retX h)
  | no => trivial
theorem sx_ifY {m : R (Bool × σ)} {m1 m2 : σ → R (Ctl σ' τ ρ)} (h : Yt P w K W eX tt env m en) (h1 : ∀ v, Sx P w K W eX eL out (tSeq s1 s3) (en v) (m1 v) eN) (h2 : ∀ v, Sx P w K W eX eL out (tSeq s2 s3) (en v) (m2 v) eN) : Sx P w K W eX eL out (tSeq (tIfS tt s1 s2) s3) env (m.bind2 fun b v => if b = true then m1 v else m2 v) eN := by
  cases m with
  | ok p =>
    obtain ⟨b, v⟩ := p
    have key : ∀ {o : Out}, (b = true → Se P w K (tSeq s1 s3) (en v) o) → (b = false → Se P w K (tSeq s2 s3) (en v) o) → Se P w K (tSeq (tIfS tt s1 s2) s3) env o := fun a1 a2 => se_ifq h a1 a2
    cases b with
    | true =>
      have h1 := h1 v
      show Sx P w K W eX eL out _ env (m1 v) eN
      cases e : m1 v with
      | ok c => rw [e] at h1; cases c <;> exact key (fun _ => h1) (fun z => nomatch z)
      | ex x => rw [e] at h1; exact key (fun _ => h1) (fun z => nomatch z)
      | no => trivial
    | false =>
      have h2 := h2 v
      show Sx P w K W eX eL out _ env (m2 v) eN
      cases e : m2 v with
      | ok c => rw [e] at h2; cases c <;> exact key (fun z => nomatch z) (fun _ => h2)
      | ex x => rw [e] at h2; exact key (fun z => nomatch z) (fun _ => h2)
      | no => trivial
  | ex x => exact fun F0 H0 F H σ D S p => h F0 H0 F H σ S _ fun od F1 H1 e S1 => p od F1 H1 σ e S1
  | no => trivial
theorem sx_app {i : Nat} {t' : Option Addr} {xs : List Dt} {m : R α} {k : α → R (Ctl σ' τ ρ)} (hi : env[i]? = some (.ow t' (.lst xs))) (h : Xp P w K W eX te env m da) (hk : ∀ a, Sx P w K W eX eL out s2 (env.set i (.ow t' (.lst (xs ++ [da a])))) (k a) eN) : Sx P w K W eX eL out (tSeq (tDrop (tBM K "list" rAppend (tVar i) (tCons te tNil))) s2) env (m.bind fun a => R.need (xs.length < 100000) (k a)) eN := by
  cases m with
  | ok a =>
    show Sx P w K W eX eL out _ env (R.need _ (k a)) eN
    by_cases hz : xs.length < 100000
    · rw [R.need_pos hz]
      exact sx_seqE (se_app hi (ee_p h) hi hz) (hk a)
    · rw [R.need, if_neg hz]
      trivial
  | ex x =>
    refine se_seqF (se_dropX (x := x.xn K) fun F0 H0 F H σ S Q q => ?_)
    obtain ⟨p0, o0, e0, g0, g1, g2, g3, vs, rfl, g4⟩ := S.own hi
    exact ⟨_, e0, .inl ⟨rfl, vs, sq_of g3⟩, h F0 H0 F H σ S _ q⟩
  | no => trivial
/-- e1, but for the slots vs, which are those of e0 -/
def unw (vs : List Nat) (e0 e1 : En) : En := (e0.zip e1).zipIdx.map fun p => if vs.contains p.2 = true then p.1.1 else p.1.2
def isOw : Option Sl → Bool
  | some (.ow _ _) => true
  | _ => false
theorem unw_get {vs : List Nat} {e0 e1 : En} {i : Nat} {x : Sl} (h : (unw vs e0 e1)[i]? = some x) : (vs.contains i = true ∧ e0[i]? = some x) ∨ (vs.contains i = false ∧ e1[i]? = some x) := by
  unfold unw at h
  rw [List.getElem?_map] at h
  obtain ⟨⟨⟨a, b⟩, j⟩, h1, h2⟩ := Option.map_eq_some_iff.mp h
  rw [List.getElem?_zipIdx] at h1
  obtain ⟨⟨a', b'⟩, h3, h4⟩ := Option.map_eq_some_iff.mp h1
  cases h4
  rw [List.getElem?_zip_eq_some] at h3
  rw [Nat.zero_add] at h2
  cases hc : vs.contains i with
  | true =>
    simp only [hc, if_true] at h2
    exact .inl ⟨rfl, by rw [← h2]; exact h3.1⟩
  | false =>
    simp only [hc, Bool.false_eq_true, if_false] at h2
    exact .inr ⟨rfl, by rw [← h2]; exact h3.2⟩
theorem wipe_ne {σ : L2.St} : ∀ {vs : List Nat} {i : Nat}, vs.contains i = false → (L2.wipe σ vs)[i]? = σ[i]?
  | [], i, _ => rfl
  | j :: vs, i, h => by
    rw [List.contains_cons, Bool.or_eq_false_iff] at h
    show ((L2.wipe σ vs).set j none)[i]? = _
    rw [List.getElem?_set_ne (by simpa using fun z => (beq_eq_false_iff_ne.mp h.1) z.symm)]
    exact wipe_ne h.2
theorem wipe_get {σ σ' : L2.St} {vs : List Nat} (h : L2.wipe σ' vs = L2.wipe σ vs) {i : Nat} (hi : vs.contains i = false) : σ'[i]? = σ[i]? := by
  rw [← wipe_ne hi, h, wipe_ne hi]
/-- the slots around, behind a turn -/
theorem Sm.unw {vs : List Nat} {F0 H0 F H F2 H2 : Hp} {σ1 σ2 : L2.St} {e0 e1 : En} (S0 : Sm P w K F0 H0 F H σ1 e0) (S2 : Sm P w K F0 H0 F2 H2 σ2 e1) (hw : L2.wipe σ2 vs = L2.wipe σ1 vs) (e : Ex F F2) (hl : e0.length = e1.length) (no : ∀ i, vs.contains i = true → isOw e0[i]? = false) : Sm P w K F0 H0 F2 H2 σ1 (unw vs e0 e1) := by
  refine ⟨S0.e0, S2.g, ?_, fun i s h => ?_, fun i j t t' u u' p ne h1 h2 h => ?_⟩
  · rw [S0.len]
    simp [Mw.unw, hl]
  · rcases unw_get h with ⟨hc, h⟩ | ⟨hc, h⟩
    · obtain ⟨v, k1, k2⟩ := S0.sl i s h
      refine ⟨v, k1, ?_⟩
      cases s with
      | x => trivial
      | u => exact k2
      | d d =>
        obtain ⟨y, e', r⟩ := k2
        exact ⟨y, e', r.mono e⟩
      | ex a od y => exact ⟨k2.1, k2.2.mono e⟩
      | lk y x => exact ⟨k2.1, k2.2.mono e⟩
      | ow t u =>
        have := no i hc
        rw [h] at this
        cases this
    · obtain ⟨v, k1, k2⟩ := S2.sl i s h
      exact ⟨v, by rw [← wipe_get hw hc]; exact k1, k2⟩
  · have cs : ∀ {i : Nat} {t : Option Addr} {u : Ow}, (Mw.unw vs e0 e1)[i]? = some (.ow t u) → vs.contains i = false ∧ e1[i]? = some (.ow t u) := by
      intro i t u h
      rcases unw_get h with ⟨hc, h⟩ | h
      · have := no i hc
        rw [h] at this
        cases this
      · exact h
    obtain ⟨c1, g1⟩ := cs h1
    obtain ⟨c2, g2⟩ := cs h2
    rw [← wipe_get hw c1] at h
    rw [← wipe_get hw c2]
    exact S2.df i j t t' u u' p ne g1 g2 h
end
end Mw
set_option maxHeartbeats 1000000
namespace Mw
open PySem PySem.Spec PyProof.Rows L2 Qw
open Evl hiding ea_cons
open Pw (Dt Rp RpL Wk R2d R1d RLd RLn Kq KqL none_sub spX2 get_set set_same set_ne rangeD rangeD_len)
namespace R
variable {α β γ σ : Type}
theorem lcG_inv {e : β → Dt} {t : α → R Bool} {f : α → R β} : ∀ {xs : List α} {l : List β}, lcG xs t f = .ok l →
    (∀ a ∈ xs, ∃ b, t a = .ok b ∧ (b = true → ∃ y, f a = .ok y)) ∧ l.map e = (xs.filter fun a => match t a with | .ok b => b | _ => false).map fun a => match f a with | .ok y => e y | _ => .non
  | [], l, h => by
    cases h
    exact ⟨fun a h => by simp at h, rfl⟩
  | a :: xs, l, h => by
    unfold lcG at h
    obtain ⟨b, hb, h⟩ := bind_of h
    cases b with
    | true =>
      simp only [if_true] at h
      obtain ⟨y, hy, h⟩ := bind_of h
      obtain ⟨l', hl, h⟩ := bind_of h
      cases h
      obtain ⟨i1, i2⟩ := lcG_inv (e := e) hl
      refine ⟨fun c hc => ?_, ?_⟩
      · rcases List.mem_cons.mp hc with rfl | hc
        · exact ⟨true, hb, fun _ => ⟨y, hy⟩⟩
        · exact i1 c hc
      · rw [List.filter_cons_of_pos (by rw [hb]), List.map_cons, List.map_cons, i2, hy]
    | false =>
      simp only [Bool.false_eq_true, if_false] at h
      obtain ⟨i1, i2⟩ := lcG_inv (e := e) h
      refine ⟨fun c hc => ?_, ?_⟩
      · rcases List.mem_cons.mp hc with rfl | hc
        · exact ⟨false, hb, fun z => nomatch z⟩
        · exact i1 c hc
      · rw [List.filter_cons_of_neg (by rw [hb]; decide), i2]
theorem bind2_of {m : R (α × σ)} {f : α → σ → R β} {b : β} (h : m.bind2 f = .ok b) : ∃ a v, m = .ok (a, v) ∧ f a v = .ok b := by
  cases m with
  | ok p => exact ⟨p.1, p.2, rfl, h⟩
  | ex x => cases h
  | no => cases h
theorem lcGS_snoc {t : α → σ → R (Bool × σ)} {f : α → σ → R (β × σ)} {a : α} : ∀ (xs : List α) (v : σ), lcGS (xs ++ [a]) v t f = (lcGS xs v t f).bind2 fun l v => (t a v).bind2 fun b v1 => if b = true then (f a v1).bind2 fun y v2 => .ok (l ++ [y], v2) else .ok (l, v1)
  | [], v => by
    show lcGS [a] v t f = _
    unfold lcGS
    simp only [bind2_ok]
    cases t a v with
    | ok p =>
      simp only [bind2]
      cases p.1 with
      | true =>
        simp only [if_true]
        cases f a p.2 with
        | ok q => rfl
        | ex x => rfl
        | no => rfl
      | false => rfl
    | ex x => rfl
    | no => rfl
  | c :: xs, v => by
    rw [List.cons_append, lcGS, lcGS]
    cases t c v with
    | ok p =>
      simp only [bind2]
      cases p.1 with
      | true =>
        simp only [if_true]
        cases f c p.2 with
        | ok q =>
          simp only
          rw [lcGS_snoc xs q.2]
          cases lcGS xs q.2 t f with
          | ok z =>
            simp only [bind2]
            cases t a z.2 with
            | ok y =>
              simp only
              cases y.1 with
              | true =>
                simp only [if_true]
                cases f a y.2 with
                | ok w => rfl
                | ex x => rfl
                | no => rfl
              | false => rfl
            | ex x => rfl
            | no => rfl
          | ex x => rfl
          | no => rfl
        | ex x => rfl
        | no => rfl
      | false =>
        simp only [Bool.false_eq_true, if_false]
        rw [lcGS_snoc xs p.2]
        rfl
    | ex x => rfl
    | no => rfl
theorem lcGS_pre {t : α → σ → R (Bool × σ)} {f : α → σ → R (β × σ)} : ∀ (ys xs : List α) (v : σ) (q : List β × σ), lcGS (xs ++ ys) v t f = .ok q → ∃ q', lcGS xs v t f = .ok q'
  | [], xs, v, q, h => ⟨q, by rwa [List.append_nil] at h⟩
  | y :: ys, xs, v, q, h => by
    rw [show xs ++ y :: ys = (xs ++ [y]) ++ ys by simp] at h
    obtain ⟨q1, h1⟩ := lcGS_pre ys (xs ++ [y]) v q h
    rw [lcGS_snoc] at h1
    obtain ⟨l, v1, h2, _⟩ := bind2_of h1
    exact ⟨_, h2⟩
theorem lcGS_len {t : α → σ → R (Bool × σ)} {f : α → σ → R (β × σ)} : ∀ {ys : List α} {v : σ} {q : List β × σ}, lcGS ys v t f = .ok q → q.1.length ≤ ys.length
  | [], v, q, h => by cases h; exact Nat.le_refl _
  | c :: ys, v, q, h => by
    unfold lcGS at h
    obtain ⟨b, v5, h1, h⟩ := bind2_of h
    cases b with
    | true =>
      simp only [if_true] at h
      obtain ⟨y, v6, h2, h⟩ := bind2_of h
      obtain ⟨l, v7, h3, h⟩ := bind2_of h
      cases h
      have := lcGS_len h3
      simp only [List.length_cons]
      simp only at this
      omega
    | false =>
      simp only [Bool.false_eq_true, if_false] at h
      have := lcGS_len h
      simp only [List.length_cons]
      omega
end R
section
variable {P : Program} {w : World} {K : PySem.W.Frag} {W : WX} {eX : En} {α β γ δ σ σ' τ ρ : Type} {env env1 env2 : En} {ta tb te tc : TE} {tt tu : TT} {tA tr : TA} {wi : TI} {r : R2} {g : TG}
variable {d : α → Dt} {e : β → Dt} {en : σ → En}
theorem xo_lc {vs : List Nat} {mi : R (List α)} {t : α → R Bool} {f : α → R β} (hI : Xi P w K W eX wi env mi d)
    (hs : ∀ a, ∃ e1, Gc P w K g vs (d a) (wipeE env vs) e1 ∧ Xt P w K W eX tt e1 (t a) ∧ Xp P w K W eX te e1 (f a) e) : Xo P w K W eX (tLc wi g tt te vs) env (mi.bind fun xs => (R.lcR xs t f).nox) (oL e) := by
  cases mi with
  | ok xs =>
    show Xo P w K W eX _ env ((R.lcR xs t f).nox) (oL e)
    cases hr : R.lcR xs t f with
    | ok l =>
      unfold R.lcR R.need at hr
      by_cases hn : xs.length ≤ 40000
      · rw [if_pos hn] at hr
        obtain ⟨h1, h2⟩ := R.lcG_inv (e := e) hr
        show EpO P w K _ env (Ow.lst (l.map e))
        rw [h2]
        refine po_n (np_lcT xs d hI hn _ _ fun i a ha => ?_)
        obtain ⟨e1, g1, t1, f1⟩ := hs a
        obtain ⟨b, hb, hf⟩ := h1 a (List.mem_of_getElem? ha)
        rw [hb] at t1
        refine ⟨e1, g1, by rw [hb]; exact t1, fun hp => ?_⟩
        rw [hb] at hp
        obtain ⟨y, hy⟩ := hf hp
        rw [hy] at f1 ⊢
        exact f1
      · rw [if_neg hn] at hr
        cases hr
    | ex x => trivial
    | no => trivial
  | ex x => exact fun F0 H0 F H σ S Q q => hI F0 H0 F H σ S _ q
  | no => trivial
theorem Sh.nil : Sh [] [] := Sh.refl
theorem Sh.s {a b : En} {s : Sl} (h : Sh a b) : Sh (s :: a) (s :: b) := ⟨by simp [h.1], fun i t z => by
  cases i with
  | zero => exact .inl (by simpa using z)
  | succ i => exact h.2 i t (by simpa using z)⟩
theorem Sh.o {a b : En} {t : Option Addr} {u u' : Ow} (h : Sh a b) : Sh (.ow t u :: a) (.ow t u' :: b) := ⟨by simp [h.1], fun i s z => by
  cases i with
  | zero => exact .inr ⟨t, u, u', by simpa using z.symm, rfl⟩
  | succ i => exact h.2 i s (by simpa using z)⟩
/-- what stands so far, the list at D -/
structure MkS (P : Program) (w : World) (K : PySem.W.Frag) (F0 H0 F1 H1 : Hp) (σ : L2.St) (e0 e1 : En) (D : Addr) (l : List Dt) (F2 H2 : Hp) (acc : List V) : Prop where
  f : Ex F1 F2
  d : F2 D = none
  a : H2 D = some (.lst acc)
  r : RpL K F2 l acc
  s : Sm P w K F0 H0 F2 H2 σ e1
  h : ∀ a o, H1 a = some o → ¬ Own σ e0 a → H2 a = some o
  n : ∀ a o, H1 a = some o → F1 a = none → F2 a = none
  b : ∀ a, H2 a = none → H1 a = none
theorem yo_lcS {vs : List Nat} {mi : R (List α × σ)} {t : α → σ → R (Bool × σ)} {f : α → σ → R (β × σ)} {eb : σ → α → En} (hI : Yi P w K W eX wi env mi d en)
    (hE : ∀ v v' a, unw vs (en v) (eb v' a) = en v') (hZ : ∀ v v' a, (en v).length = (eb v' a).length) (hO : ∀ v i, vs.contains i = true → isOw (en v)[i]? = false) (hS : ∀ v v', Sh (en v) (en v'))
    (hs : ∀ v a, Gc P w K g vs (d a) (wipeE (en v) vs) (eb v a) ∧ Yt P w K W eX tt (eb v a) (t a v) (fun v' => eb v' a) ∧ Ye P w K W eX te (eb v a) (f a v) e (fun v' => eb v' a)) : Yo P w K W eX (tLc wi g tt te vs) env (mi.bind2 fun xs v => (R.lcS xs v t f).nox) (oL e) en := by
  cases mi with
  | ok p =>
    obtain ⟨xs, v0⟩ := p
    show Yo P w K W eX _ env ((R.lcS xs v0 t f).nox) (oL e) en
    cases hr : R.lcS xs v0 t f with
    | ok q =>
      obtain ⟨l, v1⟩ := q
      unfold R.lcS R.need at hr
      by_cases hn : xs.length ≤ 40000
      · rw [if_pos hn] at hr
        refine ⟨hI.1.trans (hS v0 v1), fun F0 H0 F H σ S Q q => hI.2 F0 H0 F H σ S _ fun J F1 H1 k1 S1 Wl D hD => ?_⟩
        have nF : F1 D = none := none_sub S1.sub hD
        have n0 : H0 D = none := none_sub S1.g.h hD
        have nO : ∀ v, ¬ Own σ (en v) D := fun v z => S1.ownNew hD ((hS v0 v).own z)
        refine lc_it Wl (fun i H2 => ∃ l v F2 acc, R.lcGS (xs.take i) v0 t f = .ok (l, v) ∧ MkS P w K F0 H0 F1 H1 σ (en v0) (en v) D (l.map e) F2 H2 acc)
          ⟨[], v0, F1, [], rfl, Ex.refl F1, nF, upd_same, rfl, S1.upd _ nF n0 (nO v0), fun a o h _ => by rw [upd_ne (ne_of_none h hD)]; exact h, fun _ _ _ n => n, fun a h => ?_⟩ (fun i H2 _ h => ?_) (fun i x H2 H2' hi h y => ?_) (fun H2 h => ?_)
        · by_cases z : a = D
          · subst z
            exact hD
          · rwa [upd_ne z] at h
        · obtain ⟨l, v, F2, acc, _, M⟩ := h
          exact M.f.trans M.s.sub
        · obtain ⟨l2, v, F2, acc, hl, M⟩ := h
          obtain ⟨F3, d', w3, hd', r3⟩ := y F2 M.f M.s.sub
          rw [List.length_map] at hi
          have hi : i < xs.length := hi
          obtain ⟨a, ha⟩ : ∃ a, xs[i]? = some a := ⟨_, List.getElem?_eq_getElem hi⟩
          rw [List.getElem?_map, ha] at hd'
          cases hd'
          obtain ⟨hg, ht, he⟩ := hs v a
          have etake : xs.take (i + 1) = xs.take i ++ [a] := by
            rw [List.take_add_one, ha]
            rfl
          obtain ⟨⟨l3, v3⟩, hq⟩ : ∃ q', R.lcGS (xs.take (i + 1)) v0 t f = .ok q' := R.lcGS_pre (xs.drop (i + 1)) _ v0 _ (by rw [List.take_append_drop]; exact hr)
          have hq0 := hq
          rw [etake, R.lcGS_snoc, hl] at hq
          simp only [R.bind2_ok] at hq
          obtain ⟨b, v2, hb, hq⟩ := R.bind2_of hq
          rw [hb] at ht
          refine hg F0 H0 F3 H2' σ x ((M.s.wk w3).wipe vs) r3 _ fun σ' hw hOw S3 => ⟨hw, ?_⟩
          have own3 : ∀ {p : Addr}, Own σ' (eb v a) p → Own σ (en v0) p := fun z => (hS v0 v).own (own_wipe (hOw _ z))
          refine ht.2 F0 H0 F3 H2' _ S3 _ fun F4 H4 w4 S4 => ?_
          have nD3 : ¬ Own σ' (eb v a) D := fun z => nO v0 (own3 z)
          have hD4 : H4 D = some (.lst acc) := w4.h D _ (w3.h D _ M.a) nD3
          have dF3 : F3 D = none := w3.n D _ M.a M.d
          have dF4 : F4 D = none := w4.n D _ (w3.h D _ M.a) dF3
          cases b with
          | true =>
            simp only [if_true] at hq
            obtain ⟨yy, v4, hf, hq⟩ := R.bind2_of hq
            cases hq
            -- the element, from the slots behind the test
            obtain ⟨_, _, he⟩ := hs v2 a
            rw [hf] at he
            show te σ' H4 _
            refine he.2 F0 H0 F4 H4 _ S4 _ fun vv F5 H5 w5 S5 r5 => ?_
            have nD4 : ¬ Own σ' (eb v2 a) D := fun z => nD3 (ht.1.own z)
            have hD5 : H5 D = some (.lst acc) := w5.h D _ hD4 nD4
            have dF5 : F5 D = none := w5.n D _ hD4 dF4
            have x5 : Ex F2 F5 := (w3.f.trans w4.f).trans w5.f
            have So : Sm P w K F0 H0 F5 H5 σ (en v3) := by
              have := Sm.unw M.s S5 hw x5 (hZ v v3 a) (hO v)
              rwa [hE] at this
            have hlen : acc.length < sizeLine := by
              rw [← M.r.length, List.length_map]
              have h1 := R.lcGS_len hl
              have h2 : (xs.take i).length ≤ i := by simp; omega
              simp only at h1
              exact sz_lt (by omega)
            refine ⟨acc, hD5, hlen, _, v3, F5, acc ++ [vv], hq0, M.f.trans x5, dF5, upd_same, ?_, So.upd _ dF5 n0 (nO v3), fun a' o h h' => ?_, fun a' o h h' => ?_, fun a' h => ?_⟩
            · rw [List.map_append]
              exact RpL.append (M.r.mono x5) (RpL.cons r5 RpL.nil)
            · rw [upd_ne (ne_of_none h hD)]
              exact w5.h a' o (w4.h a' o (w3.h a' o (M.h a' o h h')) fun z => h' (own3 z)) fun z => h' (own3 (ht.1.own z))
            · by_cases z : a' = D
              · subst z
                exact dF5
              · have g2 : F2 a' = none := M.n a' o h h'
                have hh : ∀ {o' : HO}, H2 a' = some o' → F5 a' = none := fun e2 => by
                  have e3 := w3.h a' _ e2
                  have f3 := w3.n a' _ e2 g2
                  have f4 := w4.n a' _ e3 f3
                  cases e4 : H4 a' with
                  | some o4 => exact w5.n a' o4 e4 f4
                  | none =>
                    have := w4.b a' e4
                    rw [e3] at this
                    cases this
                cases e2 : H2 a' with
                | some o2 => exact hh e2
                | none =>
                  have := M.b a' e2
                  rw [h] at this
                  cases this
            · by_cases z : a' = D
              · subst z
                exact hD
              · rw [upd_ne z] at h
                exact M.b a' (none_sub w3.h (w4.b a' (w5.b a' h)))
          | false =>
            simp only [Bool.false_eq_true, if_false] at hq
            cases hq
            have x4 : Ex F2 F4 := w3.f.trans w4.f
            have So : Sm P w K F0 H0 F4 H4 σ (en v3) := by
              have := Sm.unw M.s S4 hw x4 (hZ v v3 a) (hO v)
              rwa [hE] at this
            refine ⟨_, v3, F4, acc, hq0, M.f.trans x4, dF4, hD4, M.r.mono x4, So, fun a' o h h' => w4.h a' o (w3.h a' o (M.h a' o h h')) fun z => h' (own3 z), fun a' o h h' => ?_, fun a' h => M.b a' (none_sub w3.h (w4.b a' h))⟩
            have g2 : F2 a' = none := M.n a' o h h'
            cases e2 : H2 a' with
            | some o2 => exact w4.n a' _ (w3.h a' _ e2) (w3.n a' _ e2 g2)
            | none =>
              have := M.b a' e2
              rw [h] at this
              cases this
        · obtain ⟨l2, v2, F2, acc, hl, M⟩ := h
          rw [List.length_map, List.take_length, hr] at hl
          cases hl
          exact q D (.lst acc) F2 H2 ⟨k1.f.trans M.f, fun a o h h' => by
            have h1 := k1.h a o h h'
            exact M.h a o h1 fun z => h' (hI.1.own z), M.s.sub, fun a o h h' => (by
            cases e1 : H1 a with
            | some o1 => exact M.n a o1 e1 (k1.n a o h h')
            | none =>
              have := k1.b a e1
              rw [h] at this
              cases this), fun a h => k1.b a (M.b a h)⟩ M.s (k1.b D hD) M.d M.a ⟨acc, rfl, M.r⟩
      · rw [if_neg hn] at hr
        cases hr
    | ex x => trivial
    | no => trivial
  | ex x => exact fun F0 H0 F H σ S Q q => hI F0 H0 F H σ S _ q
  | no => trivial
def rangeI (lo : Int) (n : Nat) : List Int := (List.range n).map fun i : Nat => lo + i
theorem rangeI_map (lo : Int) (n : Nat) : (rangeI lo n).map eI = rangeD lo n := by
  unfold rangeI rangeD
  rw [List.map_map]
  rfl
theorem xi_rng1 {ma : R α} {n : α → Int} (h : Xa P w K W eX tA env ma (fun a => [.int (n a)])) : Xi P w K W eX (iRng1 tA) env (ma.bind fun a => R.need (-100000 ≤ n a ∧ n a ≤ 100000) (.ok (rangeI 0 (n a).toNat))) eI := by
  cases ma with
  | ok a =>
    show Xi P w K W eX _ env (R.need _ _) eI
    by_cases hn : -100000 ≤ n a ∧ n a ≤ 100000
    · rw [R.need_pos hn]
      show Ip P w K _ env ((rangeI 0 (n a).toNat).map eI)
      rw [rangeI_map]
      exact ip_rng1 h hn
    · rw [R.need, if_neg hn]
      trivial
  | ex x => exact fun F0 H0 F H σ S Q q => h F0 H0 F H σ S _ q
  | no => trivial
theorem yi_rng1 {ma : R (α × σ)} {n : α → Int} (h : Ya P w K W eX tA env ma (fun a => [.int (n a)]) en) : Yi P w K W eX (iRng1 tA) env (ma.bind2 fun a v => R.need (-100000 ≤ n a ∧ n a ≤ 100000) (.ok (rangeI 0 (n a).toNat, v))) eI en := by
  cases ma with
  | ok p =>
    obtain ⟨a, v⟩ := p
    show Yi P w K W eX _ env (R.need _ _) eI en
    by_cases hn : -100000 ≤ n a ∧ n a ≤ 100000
    · rw [R.need_pos hn]
      refine ⟨h.1, fun F0 H0 F H σ S R k => ?_⟩
      show iRng1 tA σ H R
      refine h.2 F0 H0 F H σ S _ fun vs F1 H1 k1 S1 r1 => ?_
      obtain ⟨v', r', rfl, e1, e2⟩ := r1
      cases e1; cases e2
      refine ⟨n a, rfl, by omega, by omega, k _ F1 H1 k1 S1 ?_⟩
      show Pw.Wl K F1 _ ((rangeI 0 (n a).toNat).map eI)
      rw [rangeI_map]
      exact Pw.wl_range
    · rw [R.need, if_neg hn]
      trivial
  | ex x => exact fun F0 H0 F H σ S Q q => h F0 H0 F H σ S _ q
  | no => trivial
theorem xi_list {e : α → Dt} {m : R (List α)} (h : Xp P w K W eX te env m (eL e)) : Xi P w K W eX (iList K te) env m e := by
  cases m with
  | ok xs => exact ip_list h
  | ex x => exact fun F0 H0 F H σ S Q q => h F0 H0 F H σ S _ q
  | no => trivial
theorem xi_tup {e : α → Dt} {m : R (List α)} (h : Xp P w K W eX te env m (eT e)) : Xi P w K W eX (iTup K te) env m e := by
  cases m with
  | ok xs => exact ip_tup h
  | ex x => exact fun F0 H0 F H σ S Q q => h F0 H0 F H σ S _ q
  | no => trivial
end
end Mw
set_option maxHeartbeats 1000000
namespace Mw
open PySem PySem.Spec PyProof.Rows L2 Qw
open Evl hiding ea_cons
open Pw (Dt Rp RpL Wk R2d R1d RLd RLn Kq KqL none_sub spX2 get_set set_same set_ne rangeD rangeD_len py pyL fl flatD)
section
variable {P : Program} {w : World} {K : PySem.W.Frag} {W : WX} {eX : En} {α β γ δ σ σ' τ ρ : Type} {env env1 env2 : En} {ta tb te tc : TE} {tt tu : TT} {tA tr : TA} {wi : TI} {r : R2} {g : TG}
theorem r2_is {d e z z' : Dt} (h : R2d K r d e z) (q : z = z') : R2d K r d e z' := q ▸ h
theorem rm_v {d e : Dt} {c : γ} {z : γ → Dt} (h : R2d K r d e (z c)) : R2m K r d e (.ok c) z := h
theorem rm_need {d e : Dt} {c : Prop} [Decidable c] {m : R γ} {z : γ → Dt} (h : c → R2m K r d e m z) : R2m K r d e (R.need c m) z := by
  unfold R.need
  split
  · exact h (by assumption)
  · trivial
def ixR (xs : List α) (i : Int) : R α := match (ixN xs.length i).bind fun j => xs[j]? with
  | some a => .ok a
  | none => .no
theorem ixR_ok {xs : List α} {i : Int} {j : Nat} {a : α} (hi : i = (j : Int)) (h : xs[j]? = some a) : ixR xs i = .ok a := by
  have hl := (List.getElem?_eq_some_iff.mp h).1
  unfold ixR
  rw [hi, Pw.ixN_at (by omega) (by omega)]
  simp [h]
theorem rm_ixL {e : α → Dt} {xs : List α} {i : Int} : R2m K (rIxL K) (eL e xs) (.int i) (ixR xs i) e := by
  unfold ixR
  cases h : ixN xs.length i with
  | none => trivial
  | some j =>
    show R2m K _ _ _ (match xs[j]? with | some a => .ok a | none => .no) e
    cases h2 : xs[j]? with
    | none => trivial
    | some a => exact Pw.r2_ixL (by rw [List.length_map]; exact h) (by rw [List.getElem?_map, h2]; rfl)
theorem rm_ixT {e : α → Dt} {xs : List α} {i : Int} : R2m K (rIxT K) (eT e xs) (.int i) (ixR xs i) e := by
  unfold ixR
  cases h : ixN xs.length i with
  | none => trivial
  | some j =>
    show R2m K _ _ _ (match xs[j]? with | some a => .ok a | none => .no) e
    cases h2 : xs[j]? with
    | none => trivial
    | some a => exact Pw.r2_ixT (by rw [List.length_map]; exact h) (by rw [List.getElem?_map, h2]; rfl)
/-- a list or tuple whose items are known one by one -/
theorem r2_ixTn {ds : List Dt} {z : Dt} (j : Nat) (h : ds[j]? = some z) : R2d K (rIxT K) (.tup ds) (.int (j : Int)) z := Pw.r2_ixT (Pw.ixN_at (by omega) (by have := (List.getElem?_eq_some_iff.mp h).1; omega)) (by simpa using h)
def modR (i j : Int) : R Int := R.need (0 < j) (.ok (i % j))
def divR (i j : Int) : R Int := R.need (0 < j ∧ j < 1073741824) (.ok (i / j))
theorem rm_mod {i j : Int} : R2m K (rI (fun _ j => 0 < j) fun i j => .int (i % j)) (.int i) (.int j) (modR i j) eI := rm_need fun h => Pw.r2_I h
theorem rm_div {i j : Int} : R2m K (rI CDiv fun i j => .int (i / j)) (.int i) (.int j) (divR i j) eI := rm_need fun h => Pw.r2_I h
def catR (xs ys : List α) : R (List α) := R.need (xs.length + ys.length ≤ 100000) (.ok (xs ++ ys))
theorem catR_ok {xs ys : List α} (h : xs.length + ys.length ≤ 100000) : catR xs ys = .ok (xs ++ ys) := R.need_pos h
theorem rm_catL {e : α → Dt} {xs ys : List α} : R2m K (rCatR K) (eL e xs) (eL e ys) (catR xs ys) (eL e) := rm_need fun h => by
  show R2d K _ _ _ (.lst ((xs ++ ys).map e))
  rw [List.map_append]
  exact r2_cat (by simpa using h)
theorem rm_catT {e : α → Dt} {xs ys : List α} : R2m K (rCatA K) (eT e xs) (eT e ys) (catR xs ys) (eT e) := rm_need fun h => by
  show R2d K _ _ _ (.tup ((xs ++ ys).map e))
  rw [List.map_append]
  exact r2_catT (by simpa using h)
instance {xs : List α} {k : Int} : Decidable (xs ≠ [] ∧ 0 ≤ k ∧ k ≤ 1000 ∧ xs.length ≤ 1000) := by
  cases xs with
  | nil => exact isFalse fun h => h.1 rfl
  | cons a xs =>
    by_cases h : 0 ≤ k ∧ k ≤ 1000 ∧ (a :: xs).length ≤ 1000
    · exact isTrue ⟨by simp, h⟩
    · exact isFalse fun z => h z.2
def repTR (xs : List α) (k : Int) : R (List α) := R.need (0 < xs.length ∧ 0 ≤ k ∧ k ≤ 1000 ∧ xs.length ≤ 1000) (.ok (List.replicate k.toNat xs).flatten)
theorem repTR_1 {a : α} {k : Int} (h : 0 ≤ k ∧ k ≤ 1000) : repTR [a] k = .ok (List.replicate k.toNat a) := by
  unfold repTR
  rw [R.need_pos ⟨by simp, h.1, h.2, by simp⟩]
  congr 1
  induction k.toNat with
  | zero => rfl
  | succ n ih => rw [List.replicate_succ, List.flatten_cons, ih, List.replicate_succ]; rfl
theorem r2_repA {ds : List Dt} {k : Int} (h : 0 < ds.length ∧ 0 ≤ k ∧ k ≤ 1000 ∧ ds.length ≤ 1000) : R2d K (rRepA K) (.tup ds) (.int k) (.tup (List.replicate k.toNat ds).flatten) := fun F H x y s r1 r2 Q q => by
  obtain ⟨a, us, rfl, g1, e1⟩ := r1
  cases r2
  have hl := e1.length
  refine ⟨a, k, us, rfl, rfl, ex_t s g1, fun z => ?_, h.2.1, h.2.2.1, by omega, fun z => ?_, fun z p hp => ?_⟩
  · rw [z] at hl
    have h1 := h.1
    simp at hl
    rw [hl] at h1
    simp at h1
  · subst z
    have e : (List.replicate (1 : Int).toNat ds).flatten = ds := by simp
    rw [e] at q
    exact q _ F H (Wk.refl s) ⟨a, us, rfl, g1, e1⟩
  · have k1 : Wk F H (L2.upd F p (.tup (List.replicate k.toNat us).flatten)) (L2.upd H p (.tup (List.replicate k.toNat us).flatten)) := Wk.new s _ hp
    refine q (.ref p) _ _ k1 ⟨p, _, rfl, SqT.of upd_same, ?_⟩
    have e2 := e1.mono k1.f
    clear k1
    revert e2
    generalize L2.upd F p (.tup (List.replicate k.toNat us).flatten) = F2
    intro e2
    induction k.toNat with
    | zero => exact rfl
    | succ n ih => rw [List.replicate_succ, List.flatten_cons, List.replicate_succ, List.flatten_cons]; exact e2.append ih
theorem map_repl {e : α → Dt} {xs : List α} {n : Nat} : ((List.replicate n xs).flatten).map e = (List.replicate n (xs.map e)).flatten := by
  induction n with
  | zero => rfl
  | succ n ih => rw [List.replicate_succ, List.flatten_cons, List.map_append, ih, List.replicate_succ, List.flatten_cons]
theorem rm_repA {e : α → Dt} {xs : List α} {k : Int} : R2m K (rRepA K) (eT e xs) (.int k) (repTR xs k) (eT e) := rm_need fun h => by
  show R2d K _ _ _ (.tup (((List.replicate k.toNat xs).flatten).map e))
  rw [map_repl]
  exact r2_repA (by simpa using h)
def cutR (xs : List α) (lo hi : Option Int) : List α := (xs.drop (HT.sIx xs.length 0 lo)).take (HT.sIx xs.length xs.length hi - HT.sIx xs.length 0 lo)
theorem cutR_map {e : α → Dt} {xs : List α} {lo hi : Option Int} : (cutR xs lo hi).map e = Qw.cutD (xs.map e) lo hi := by
  unfold cutR Qw.cutD
  rw [List.map_take, List.map_drop, List.length_map]
theorem ep_cutL {e : α → Dt} {xs : List α} {tl th : TO} {lo hi : Option Int} (h : Ep P w K te env (eL e xs)) (h1 : Op P w K tl env lo) (h2 : Op P w K th env hi) : EpO P w K (tSl (rSlL K) te tl th) env (oL e (cutR xs lo hi)) := by
  show EpO P w K _ env (.lst ((cutR xs lo hi).map e))
  rw [cutR_map]
  exact po_n (np_slL h h1 h2)
theorem ep_cutT {e : α → Dt} {xs : List α} {tl th : TO} {lo hi : Option Int} (h : Ep P w K te env (eT e xs)) (h1 : Op P w K tl env lo) (h2 : Op P w K th env hi) : Ep P w K (tSl (rSlA K) te tl th) env (eT e (cutR xs lo hi)) := by
  show Ep P w K _ env (.tup ((cutR xs lo hi).map e))
  rw [cutR_map]
  exact ep_slT h h1 h2
theorem cutR_from {xs : List α} {k : Nat} : cutR xs (some (k : Int)) none = xs.drop k := by
  unfold cutR
  rw [HT.sIx_nat, HT.sIx_none]
  by_cases h : k ≤ xs.length
  · rw [Nat.min_eq_left h, List.take_of_length_le (by simp)]
  · rw [Nat.min_eq_right (by omega), Nat.sub_self, List.take_zero, List.drop_of_length_le (by omega)]
theorem cutR_to {xs : List α} {k : Nat} : cutR xs none (some (k : Int)) = xs.take k := by
  unfold cutR
  rw [HT.sIx_nat, HT.sIx_none]
  by_cases h : k ≤ xs.length
  · rw [Nat.min_eq_left h]
    rfl
  · rw [Nat.min_eq_right (by omega), List.drop_zero, List.take_of_length_le (by omega), List.take_of_length_le (by omega)]
structure PyE (n : Nat) (e : α → Dt) : Prop where
  h : ∃ p : α → PyData, (∀ a, py (e a) = some (p a)) ∧ (∀ a, (p a).canLay0 = true) ∧ (∀ a, (p a).depth ≤ n) ∧ ∀ a b, PyData.eqv (p a) (p b) = true ↔ a = b
theorem pyE_int : PyE 0 eI := ⟨PyData.int, fun _ => rfl, fun _ => rfl, fun _ => Nat.le_refl _, fun a b => by simp [PyData.eqv]⟩
theorem pyL_map {e : α → Dt} {p : α → PyData} (h : ∀ a, py (e a) = some (p a)) : ∀ xs : List α, pyL (xs.map e) = some (xs.map p)
  | [] => rfl
  | a :: xs => by
    show (match py (e a), pyL (xs.map e) with | some p, some ps => some (p :: ps) | _, _ => none) = _
    rw [h a, pyL_map h xs]
    rfl
theorem layAll_map {p : α → PyData} (h : ∀ a, (p a).canLay0 = true) : ∀ xs : List α, PyData.canLayAll0 (xs.map p) = true
  | [] => rfl
  | a :: xs => by
    show (PyData.canLay0 (p a) && PyData.canLayAll0 (xs.map p)) = true
    rw [h a, layAll_map h xs]
    rfl
theorem depthAll_map {p : α → PyData} {n : Nat} (h : ∀ a, (p a).depth ≤ n) : ∀ xs : List α, PyData.depthAll (xs.map p) ≤ n
  | [] => Nat.zero_le _
  | a :: xs => by
    show max (PyData.depth (p a)) (PyData.depthAll (xs.map p)) ≤ n
    have := depthAll_map h xs
    have := h a
    omega
theorem eqvAll_map {p : α → PyData} (h : ∀ a b, PyData.eqv (p a) (p b) = true ↔ a = b) : ∀ xs ys : List α, PyData.eqvAll (xs.map p) (ys.map p) = true ↔ xs = ys
  | [], [] => by simp [PyData.eqvAll]
  | [], _ :: _ => by simp [PyData.eqvAll]
  | _ :: _, [] => by simp [PyData.eqvAll]
  | a :: xs, b :: ys => by
    show (PyData.eqv (p a) (p b) && PyData.eqvAll (xs.map p) (ys.map p)) = true ↔ _
    rw [Bool.and_eq_true, h a b, eqvAll_map h xs ys]
    simp
theorem pyE_list {n : Nat} {e : α → Dt} (h : PyE n e) : PyE (n + 1) (eL e) := by
  obtain ⟨p, h1, h2, h3, h4⟩ := h
  refine ⟨fun xs => .list (xs.map p), fun xs => ?_, fun xs => layAll_map h2 xs, fun xs => ?_, fun a b => ?_⟩
  · show (pyL (xs.map e)).map PyData.list = _
    rw [pyL_map h1]
    rfl
  · show PyData.depthAll (xs.map p) + 1 ≤ n + 1
    have := depthAll_map h3 xs
    omega
  · show PyData.eqvAll _ _ = true ↔ _
    exact eqvAll_map h4 a b
theorem pyE_tup {n : Nat} {e : α → Dt} (h : PyE n e) : PyE (n + 1) (eT e) := by
  obtain ⟨p, h1, h2, h3, h4⟩ := h
  refine ⟨fun xs => .tuple (xs.map p), fun xs => ?_, fun xs => layAll_map h2 xs, fun xs => ?_, fun a b => ?_⟩
  · show (pyL (xs.map e)).map PyData.tuple = _
    rw [pyL_map h1]
    rfl
  · show PyData.depthAll (xs.map p) + 1 ≤ n + 1
    have := depthAll_map h3 xs
    omega
  · show PyData.eqvAll _ _ = true ↔ _
    exact eqvAll_map h4 a b
theorem r2_eqE [DecidableEq α] {n : Nat} {e : α → Dt} (h : PyE n e) (hn : n ≤ 64) {a b : α} : R2d K (rEqD K) (e a) (e b) (.bl (decide (a = b))) := by
  obtain ⟨p, h1, h2, h3, h4⟩ := h
  have := Pw.r2_eqD (K := K) (h1 a) (h1 b) (by unfold SeqAt.shaped; rw [h2, decide_eq_true (Nat.le_trans (h3 a) hn)]; rfl) (by unfold SeqAt.shaped; rw [h2, decide_eq_true (Nat.le_trans (h3 b) hn)]; rfl)
  refine r2_is this ?_
  congr 1
  rw [Bool.eq_iff_iff, h4, decide_eq_true_eq]
theorem r2_neE [DecidableEq α] {n : Nat} {e : α → Dt} (h : PyE n e) (hn : n ≤ 64) {a b : α} : R2d K (rNeD K) (e a) (e b) (.bl (!decide (a = b))) := by
  obtain ⟨p, h1, h2, h3, h4⟩ := h
  have := Pw.r2_neD (K := K) (h1 a) (h1 b) (by unfold SeqAt.shaped; rw [h2, decide_eq_true (Nat.le_trans (h3 a) hn)]; rfl) (by unfold SeqAt.shaped; rw [h2, decide_eq_true (Nat.le_trans (h3 b) hn)]; rfl)
  refine r2_is this ?_
  congr 2
  rw [Bool.eq_iff_iff, h4, decide_eq_true_eq]
def outD (d : β → Dt) : β → Out := fun b => .rt (d b)
def outO (u : β → Ow) : β → Out := fun b => .ro (u b)
theorem outD_ok {d : β → Dt} : OutOk (outD d) := fun b => ⟨rfl, (fun _ z => nomatch z), (fun _ z => nomatch z)⟩
theorem outO_ok {u : β → Ow} : OutOk (outO u) := fun b => ⟨rfl, (fun _ z => nomatch z), (fun _ z => nomatch z)⟩
abbrev WD (E : XK) : WX := fun cls d _ H => E cls d H
theorem does_d {E : XK} {s : TS} {d : β → Dt} {env : En} {m : R (Ctl σ τ β)} {eL : τ → En} {eN : σ → En} {rr : Rs} (h : Sx P w K (WD E) eX eL (outD d) s env m eN) (hr : Got K m.fin (fun b => .d (d b)) rr) : Does P w K E s env rr := by
  cases m with
  | ok c =>
    cases c with
    | rt b => rw [show rr = .d (d b) from hr]; exact .inl h
    | nx v => exact False.elim hr
    | ct v => exact False.elim hr
    | bk v => exact False.elim hr
  | ex x => rw [show rr = .x (x.xn K) from hr]; exact ⟨eX, h⟩
  | no => exact False.elim hr
theorem does_o {E : XK} {s : TS} {u : β → Ow} {env : En} {m : R (Ctl σ τ β)} {eL : τ → En} {eN : σ → En} {rr : Rs} (h : Sx P w K (WD E) eX eL (outO u) s env m eN) (hr : Got K m.fin (fun b => .o (u b)) rr) : Does P w K E s env rr := by
  cases m with
  | ok c =>
    cases c with
    | rt b => rw [show rr = .o (u b) from hr]; exact h
    | nx v => exact False.elim hr
    | ct v => exact False.elim hr
    | bk v => exact False.elim hr
  | ex x => rw [show rr = .x (x.xn K) from hr]; exact ⟨eX, h⟩
  | no => exact False.elim hr
theorem does_u {E : XK} {s : TS} {env : En} {m : R (Ctl σ τ Unit)} {eL : τ → En} {eN : σ → En} {rr : Rs} (h : Sx P w K (WD E) eX eL (outD eU) s env m eN) (hr : Got K m.finU (fun b => .d (eU b)) rr) : Does P w K E s env rr := by
  cases m with
  | ok c =>
    cases c with
    | rt b => rw [show rr = .d (eU b) from hr]; exact .inl h
    | nx v => rw [show rr = .d .non from hr]; exact .inr ⟨rfl, _, h⟩
    | ct v => exact False.elim hr
    | bk v => exact False.elim hr
  | ex x => rw [show rr = .x (x.xn K) from hr]; exact ⟨eX, h⟩
  | no => exact False.elim hr
/-- a body that changes its first argument -/
theorem run_m {N : List Str} {vs : List V} {H : Hp} {Q : VK} {E : XK} {s : TS} {us : δ → Ow} {ea : α → List Dt} {m : δ → α → R (β × δ)} {er : β → Dt} {body : δ → α → R (Ctl σ τ (β × δ))} {eL : δ → α → Addr → τ → En} {eN : δ → α → Addr → σ → En} {en : Addr → δ → En} {eX : En}
    (h : spM P w K (RM us ea m er) vs H Q E) (hm : ∀ v a, m v a = (body v a).fin) (he : ∀ p v, ∃ r, en p v = .ow (some p) (us v) :: r)
    (hb : ∀ v a p, Sx P w K (WD E) eX (eL v a p) (fun q => .rte (er q.1) (en p q.2)) s (Sl.ow (some p) (us v) :: ((ea a).map Sl.d ++ List.replicate (N.length - ((ea a).length + 1)) Sl.u)) (body v a) (eN v a p)) : s { nx := fun _ H' => Q .non H', rt := Q } (L2.start N vs) H := by
  obtain ⟨F, p, vs', o, u, ds, d, u', rfl, e, hF, hp, ho, rp, ⟨v, a, rfl, rfl, hq⟩, q⟩ := h
  have hb := hb v a p
  rw [hm] at hq
  cases hbd : body v a with
  | ok c =>
    rw [hbd] at hq hb
    cases c with
    | rt b =>
      obtain ⟨rfl, rfl⟩ := hq
      have S0 := Sm.startO (P := P) (w := w) (K := K) (N := N) e hF hp ho rp
      refine hb F (hide H p) F H _ _ S0 fun v' F' H' σ' e' S' r' => ?_
      obtain ⟨r, hen⟩ := he p b.2
      obtain ⟨p2, o2, g0, g1, g2, g3, g4, g5⟩ := S'.own (i := 0) (t := some p) (u := us b.2) (by rw [hen]; rfl)
      have : p2 = p := g1 p rfl
      subst this
      refine q v' F' H' o2 e' S'.sub (fun a' z ne h => S'.g.h a' z (by rw [hide_ne ne]; exact h)) (fun a' z h h' => ?_) (fun a' h => ?_) g4 g5 r'
      · by_cases ze : a' = p2
        · subst ze
          exact g2
        · exact S'.g.n a' z (by rw [hide_ne ze]; exact h) h'
      · by_cases ze : a' = p2
        · subst ze
          rw [g4] at h
          cases h
        · cases z : H a' with
          | none => rfl
          | some o3 =>
            have := S'.g.h a' o3 (by rw [hide_ne ze]; exact z)
            rw [this] at h
            cases h
    | nx b => exact False.elim hq
    | ct b => exact False.elim hq
    | bk b => exact False.elim hq
  | ex x => rw [hbd] at hq; exact False.elim hq
  | no => rw [hbd] at hq; exact False.elim hq
theorem spM_len {us : δ → Ow} {ea : α → List Dt} {m : δ → α → R (β × δ)} {er : β → Dt} {n : Nat} (hl : ∀ a, (ea a).length + 1 = n) (vs : List V) (H : Hp) (Q : VK) (E : XK) (h : spM P w K (RM us ea m er) vs H Q E) : vs.length = n := by
  obtain ⟨F, p, vs', o, u, ds, d, u', rfl, e, hF, hp, ho, rp, ⟨v, a, rfl, rfl, hq⟩, q⟩ := h
  rw [List.length_cons, ← rp.length]
  exact hl a
end
end Mw
set_option maxHeartbeats 1000000
namespace Mw
open PySem PySem.Spec PyProof.Rows L2 Qw
open Evl hiding ea_cons
open Pw (Dt Rp RpL Wk R2d R1d RLd RLn Kq KqL none_sub spX2 get_set set_same set_ne rangeD rangeD_len py pyL fl flatD)
section
variable {P : Program} {w : World} {K : PySem.W.Frag} {W : WX} {eX : En} {α β γ δ σ σ' τ ρ : Type} {env env1 env2 : En} {ta tb te tc : TE} {tt tu : TT} {tA tr : TA} {wi : TI} {r : R2} {g : TG}
theorem wk_lend {F H F' H' : Hp} {p : Addr} {o : HO} (k : Wk (L2.upd F p o) H F' H') (hF : F p = none) : Wk F H (hide F' p) H' :=
  ⟨fun a u e => by
    have ne : a ≠ p := fun z => by rw [z, hF] at e; cases e
    rw [hide_ne ne]
    exact k.f a u (by rw [upd_ne ne]; exact e), k.h, fun a u e => k.s a u (hide_ex a u e), fun a u h e => by
    by_cases z : a = p
    · subst z
      exact hide_same
    · rw [hide_ne z]
      exact k.n a u h (by rw [upd_ne z]; exact e)⟩
theorem noOw_of {vs : List Nat} {e : En} (h : (vs.all fun i => !isOw e[i]?) = true) : ∀ i, vs.contains i = true → isOw e[i]? = false := fun i hi => by
  have := List.all_eq_true.mp h i (List.contains_iff_mem.mp hi)
  simpa using this
def setR (xs : List α) (k : Int) (a : α) : R (List α) := match ixN xs.length k with
  | some j => .ok (xs.set j a)
  | none => .no
theorem setR_ok {xs : List α} {k : Int} {a : α} (h0 : 0 ≤ k) (h : k < xs.length) : setR xs k a = .ok (xs.set k.toNat a) := by
  unfold setR
  rw [Pw.ixN_at h0 h]
theorem sx_setL {i : Nat} {t : Option Addr} {e : α → Dt} {xs : List α} {m : R α} {n : R Int} {k : List α → R (Ctl σ τ ρ)} {eL : τ → En} {out : ρ → Out} {s2 : TS} {eN : σ → En} (hi : env[i]? = some (.ow t (oL e xs))) (h : Xp P w K W eX te env m e) (hn : Xp P w K W eX tb env n eI) (hk : ∀ ys, Sx P w K W eX eL out s2 (env.set i (.ow t (oL e ys))) (k ys) eN) : Sx P w K W eX eL out (tSeq (tAsg te (gSub (tVar i) tb rSetL)) s2) env (m.bind fun a => n.bind fun j => (setR xs j a).bind k) eN := by
  cases m with
  | ok a =>
    cases n with
    | ok j =>
      show Sx P w K W eX eL out _ env ((setR xs j a).bind k) eN
      unfold setR
      cases h2 : ixN xs.length j with
      | none => trivial
      | some q =>
        show Sx P w K W eX eL out _ env (k (xs.set q a)) eN
        have hk := hk (xs.set q a)
        rw [show oL e (xs.set q a) = Ow.lst ((xs.map e).set q (e a)) by show Ow.lst _ = _; rw [List.map_set]] at hk
        exact sx_seqE (se_setL (ee_p h) (ee_p hn) hi (by rw [List.length_map]; exact h2)) hk
    | ex x =>
      refine se_seqF (o := .rz W (x.xn K) eX) fun F0 H0 F H σ D S p => h F0 H0 F H σ S _ fun v F1 H1 k1 r => ?_
      obtain ⟨p0, o0, e0, _⟩ := S.own hi
      exact ⟨_, e0, hn F0 H0 F1 H1 σ (S.wk k1) _ fun od F2 H2 e => p od F2 H2 σ (k1.f.trans e)⟩
    | no => trivial
  | ex x => exact se_seqF (se_asgX h)
  | no => trivial
end
structure Dr where
  xs : List Int
  i : Nat
  r : Int
  s : Int
def drO (d : Dr) : Ow := .lst [.lst (d.xs.map .int), .int (d.i : Int), .int d.r, .int d.s]
def drStep (d : Dr) : Dr := if d.r = 0 ∧ d.i < d.xs.length then ⟨d.xs, d.i + 1, if (10 : Int) ^ (18 : Int).toNat ≤ d.xs.getD d.i 0 then d.xs.getD d.i 0 else d.r, (d.s * 48271 + d.xs.getD d.i 0 + 13) % 2147483647⟩ else d
def drV (d : Dr) (n : Int) : Int := if 0 < (drStep d).r then (drStep d).r % n else (((drStep d).s * 69621 + 7) % 2147483629 / 11) % n
def drN (d : Dr) (n : Int) : Dr := if 0 < (drStep d).r then ⟨(drStep d).xs, (drStep d).i, (drStep d).r / n, (drStep d).s⟩ else ⟨(drStep d).xs, (drStep d).i, (drStep d).r, ((drStep d).s * 69621 + 7) % 2147483629⟩
theorem drV_ge (d : Dr) {n : Int} (h : 0 < n) : 0 ≤ drV d n := by
  unfold drV
  split <;> exact Int.emod_nonneg _ (by omega)
theorem drV_lt (d : Dr) {n : Int} (h : 0 < n) : drV d n < n := by
  unfold drV
  split <;> exact Int.emod_lt_of_pos _ h
/-- draws that leave room: limits below 2^30 -/
def drawR (d : Dr) (n : Int) : R (Int × Dr) := R.need (0 < n ∧ n < 1073741824) (.ok (drV d n, drN d n))
theorem drawR_ok {d : Dr} {n : Int} (h0 : 0 < n) (h1 : n < 1073741824) : drawR d n = .ok (drV d n, drN d n) := R.need_pos ⟨h0, h1⟩
end Mw
set_option maxHeartbeats 1000000
namespace Mw
open PySem PySem.Spec PyProof.Rows L2 Qw
open Evl hiding ea_cons
open Pw (Dt Rp RpL Wk R2d R1d RLd RLn Kq KqL none_sub spX2 get_set set_same set_ne rangeD rangeD_len py pyL fl flatD Wl wl_at tyD isI isB isS isTp isL)
section
variable {P : Program} {w : World} {K : PySem.W.Frag} {W : WX} {eX : En} {α β γ δ σ σ' τ ρ : Type} {env env1 env2 : En} {ta tb te tc : TE} {tt tu : TT} {tA tr : TA} {wi : TI} {r : R2} {g : TG} {en : σ → En} {da : α → Dt} {db : β → Dt} {dz : γ → Dt}
theorem r2_eqB {a b : Bool} : R2d K rEq (.bl a) (.bl b) (.bl (decide (a = b))) := by
  have h := Pw.r2_eq (K := K) (d := .bl a) (e := .bl b) rfl rfl rfl
  refine r2_is h ?_
  congr 1
  cases a <;> cases b <;> decide
theorem inV_ints (i : Int) (xs : List Int) : inV (V.int i) (xs.map V.int) = decide (i ∈ xs) := by
  unfold inV
  induction xs with
  | nil => rfl
  | cons a xs ih =>
    rw [List.map_cons, List.any_cons, ih]
    have : eqV (V.int a) (V.int i) = decide (i = a) := by
      simp only [eqV]
      by_cases e : i = a
      · subst e; simp
      · simp [e, Ne.symm e]
    rw [this]
    simp
theorem fl_ints (xs : List Int) : (xs.map Dt.int).map Pw.fl = xs.map V.int := by
  rw [List.map_map]
  rfl
theorem r2_inIL {i : Int} {xs : List Int} : R2d K (rIn K false) (.int i) (eL eI xs) (.bl (decide (i ∈ xs))) := by
  have h := Pw.r2_in (K := K) (neg := false) (d := .int i) (ds := xs.map Dt.int) rfl (by simp [flatD]) rfl (by rw [fl_ints]; simp [flatV])
  refine r2_is h ?_
  rw [fl_ints]
  exact congrArg Dt.bl (inV_ints i xs)
theorem ep_ifV {b : Bool} {x y : α} (h : Tp P w K tt env b) (h1 : Ep P w K ta env (da x)) (h2 : Ep P w K tb env (da y)) : Ep P w K (tIf tt ta tb) env (da (if b = true then x else y)) := ep_if h (fun e => by rw [if_pos e]; exact h1) (fun e => by rw [if_neg (by rw [e]; decide)]; exact h2)
theorem xp_if {m : R Bool} {m1 m2 : R α} (h : Xt P w K W eX tt env m) (h1 : Xp P w K W eX ta env m1 da) (h2 : Xp P w K W eX tb env m2 da) : Xp P w K W eX (tIf tt ta tb) env (m.bind fun b => if b = true then m1 else m2) da := by
  cases m with
  | ok b =>
    cases b with
    | true =>
      show Xp P w K W eX _ env m1 da
      cases m1 with
      | ok a => exact ep_if (b := true) h (fun _ => h1) (fun z => nomatch z)
      | ex x => exact fun F0 H0 F H σ S Q q => h F0 H0 F H σ S _ fun F1 H1 k => (show ta σ H1 Q from h1 F0 H0 F1 H1 σ (S.wk k) _ fun od F2 H2 e => q od F2 H2 (k.f.trans e))
      | no => trivial
    | false =>
      show Xp P w K W eX _ env m2 da
      cases m2 with
      | ok a => exact ep_if (b := false) h (fun z => nomatch z) (fun _ => h2)
      | ex x => exact fun F0 H0 F H σ S Q q => h F0 H0 F H σ S _ fun F1 H1 k => (show tb σ H1 Q from h2 F0 H0 F1 H1 σ (S.wk k) _ fun od F2 H2 e => q od F2 H2 (k.f.trans e))
      | no => trivial
  | ex x => exact fun F0 H0 F H σ S Q q => h F0 H0 F H σ S _ q
  | no => trivial
theorem xp_b1 {rr : List V → Hp → VK → Prop} {m : R α} {f : α → γ} (h : Xp P w K W eX te env m da) (hr : ∀ a, RLd K rr [da a] (dz (f a))) : Xp P w K W eX (tCB rr (tCons te tNil)) env (m.bind fun a => .ok (f a)) dz := by
  cases m with
  | ok a => exact ep_cb (ap_cons h ap_nil) (hr a)
  | ex x => exact er_cb (era_1 h)
  | no => trivial
theorem rl_lenLm {e : α → Dt} {xs : List α} : RLd K (rLenS K) [eL e xs] (eI (xs.length : Int)) := by
  have := Pw.rl_len (K := K) (ds := xs.map e)
  rwa [List.length_map] at this
theorem rl_lenTm {e : α → Dt} {xs : List α} : RLd K (rLenS K) [eT e xs] (eI (xs.length : Int)) := by
  have := Pw.rl_lenT (K := K) (ds := xs.map e)
  rwa [List.length_map] at this
theorem rl_allm {xs : List Bool} : RLd K (rAll K) [eL eB xs] (eB (xs.all id)) := Pw.rl_all
theorem rl_sumI {xs : List Int} : RLd K (rSum K) [eL eI xs] (eI xs.sum) := fun F H vs s r Q q => by
  obtain ⟨v, r1, rfl, ⟨a, us, rfl, e1, e2⟩, e3⟩ := r
  cases e3
  rw [e2.ints] at e1
  exact ⟨a, xs, rfl, ex_l s e1, q _ F H (Wk.refl s) rfl⟩
theorem ep_tupleL {e : α → Dt} {xs : List α} (h : Ep P w K te env (eL e xs)) : Ep P w K (tCB (Pw.rTupS K) (tCons te tNil)) env (eT e xs) := ep_cb (ap_cons h ap_nil) Pw.rl_tup
theorem xp_tupleL {e : α → Dt} {m : R (List α)} (h : Xp P w K W eX te env m (eL e)) : Xp P w K W eX (tCB (Pw.rTupS K) (tCons te tNil)) env m (eT e) := by
  cases m with
  | ok a => exact ep_tupleL h
  | ex x => exact er_cb (era_1 h)
  | no => trivial
theorem ye_tupleL {e : α → Dt} {m : R (List α × σ)} (h : Ye P w K W eX te env m (eL e) en) : Ye P w K W eX (tCB (Pw.rTupS K) (tCons te tNil)) env m (eT e) en := by
  cases m with
  | ok p => exact ee_cb (ea_cons h (ea_p ap_nil)) Pw.rl_tup
  | ex x => exact er_cb (era_1 h)
  | no => trivial
theorem xo_listL {e : α → Dt} {m : R (List α)} (h : Xp P w K W eX te env m (eL e)) : Xo P w K W eX (tCB (rListS K) (tCons te tNil)) env m (oL e) := by
  cases m with
  | ok a => exact po_n (np_cb (ap_cons h ap_nil) Pw.rn_list)
  | ex x => exact er_cb (era_1 h)
  | no => trivial
theorem xo_cutL {e : α → Dt} {m : R (List α)} {tl th : TO} {lo hi : Option Int} (h : Xp P w K W eX te env m (eL e)) (h1 : Op P w K tl env lo) (h2 : Op P w K th env hi) : Xo P w K W eX (tSl (rSlL K) te tl th) env (m.bind fun xs => .ok (cutR xs lo hi)) (oL e) := by
  cases m with
  | ok a => exact ep_cutL h h1 h2
  | ex x => exact fun F0 H0 F H σ S Q q => h F0 H0 F H σ S _ q
  | no => trivial
theorem xp_cutT {e : α → Dt} {m : R (List α)} {tl th : TO} {lo hi : Option Int} (h : Xp P w K W eX te env m (eT e)) (h1 : Op P w K tl env lo) (h2 : Op P w K th env hi) : Xp P w K W eX (tSl (rSlA K) te tl th) env (m.bind fun xs => .ok (cutR xs lo hi)) (eT e) := by
  cases m with
  | ok a => exact ep_cutT h h1 h2
  | ex x => exact fun F0 H0 F H σ S Q q => h F0 H0 F H σ S _ q
  | no => trivial
theorem xp_isTup {d : Dt} (h : Ep P w K te env d) : Xp P w K W eX (tCB (rIsi K) (tCons te (tCons (tC (.ty "tuple")) tNil))) env (R.need (tyD d).isSome (.ok (isTp d))) eB := by
  unfold R.need
  split
  · exact ep_cb (ap_cons h (ap_cons ep_ty ap_nil)) (Pw.rl_isTup (by assumption))
  · trivial
theorem wl_pair {J : It} {n : Nat} {G : Hp → Prop} {f h : Nat → Option V} {F1 : Hp} {ds : List Dt} (hn : ds.length = n) (wk : Walk J n G (YPair f h)) (hg : ∀ H, Ex F1 H → G H)
    (hd : ∀ i x y, i < n → f i = some x → h i = some y → ∃ d e, ds[i]? = some (.tup [d, e]) ∧ Rp K F1 d x ∧ Rp K F1 e y) : Wl K F1 J ds := by
  unfold Wl
  rw [hn]
  refine wk.mono hg fun i H v H' hi e y F2 e2 e3 => ?_
  obtain ⟨T, x, z, rfl, hT, rfl, hx, hz⟩ := y
  obtain ⟨d, e', h1, h2, h3⟩ := hd i x z hi hx hz
  have k : Wk F2 H (L2.upd F2 T (.tup [x, z])) (L2.upd H T (.tup [x, z])) := Wk.new e3 _ hT
  exact ⟨_, _, k, h1, T, [x, z], rfl, SqT.of upd_same, RpL.cons (h2.mono (e2.trans k.f)) (RpL.cons (h3.mono (e2.trans k.f)) RpL.nil)⟩
theorem rp_at {e : α → Dt} {xs : List α} {vs : List V} {F : Hp} {i : Nat} {x : V} (r : RpL K F (xs.map e) vs) (h : vs[i]? = some x) : ∃ a, xs[i]? = some a ∧ Rp K F (e a) x := by
  obtain ⟨d, h1, h2⟩ := r.getV h
  rw [List.getElem?_map] at h1
  obtain ⟨a, h3, rfl⟩ := Option.map_eq_some_iff.mp h1
  exact ⟨a, h3, h2⟩
theorem zip_at {e1 : α → Dt} {e2 : β → Dt} {xs : List α} {ys : List β} {us vs : List V} {F : Hp} (r1 : RpL K F (xs.map e1) us) (r2 : RpL K F (ys.map e2) vs) (i : Nat) (x y : V) (hx : us[i]? = some x) (hy : vs[i]? = some y) : ∃ d e, ((xs.zip ys).map (eP2 e1 e2))[i]? = some (.tup [d, e]) ∧ Rp K F d x ∧ Rp K F e y := by
  obtain ⟨a, ha, ra⟩ := rp_at r1 hx
  obtain ⟨b, hb, rb⟩ := rp_at r2 hy
  refine ⟨e1 a, e2 b, ?_, ra, rb⟩
  rw [List.getElem?_map, List.getElem?_zip_eq_some.mpr (show xs[i]? = some (a, b).1 ∧ ys[i]? = some (a, b).2 from ⟨ha, hb⟩)]
  rfl
theorem yt_yes {v : σ} (he : env = en v) : Yt P w K W eX tYes env (.ok (true, v)) en := (show Te P w K tYes env true (en v) from he ▸ te_p tp_yes)
theorem sx_app1 {eL : τ → En} {out : ρ → Out} {s2 : TS} {eN : σ → En} {e : α → Dt} {m : R (Ctl σ τ ρ)} (i : Nat) {t : Option Addr} {xs : List α} {a : α} (h : Sx P w K W eX eL out s2 (env.set i (.ow t (oL e (xs ++ [a])))) m eN) : Sx P w K W eX eL out s2 (env.set i (.ow t (.lst (xs.map e ++ [e a])))) m eN := by
  have : (oL e (xs ++ [a])) = Ow.lst (xs.map e ++ [e a]) := by show Ow.lst _ = _; rw [List.map_append]; rfl
  rw [this] at h
  exact h
end
end Mw
set_option maxHeartbeats 1000000
namespace Mw
open PySem PySem.Spec PyProof.Rows L2 Qw
open Evl hiding ea_cons
open Pw (Dt Rp RpL Wk R2d R1d RLd RLn Kq KqL none_sub spX2 tyD isI isB isS isTp isL)
def isNonD : Dt → Bool
  | .non => true
  | _ => false
def R.isOk {α : Type} : R α → Bool
  | .ok _ => true
  | _ => false
def R.isTrue : R Bool → Bool
  | .ok true => true
  | _ => false
/-- what _law_same(a, e) gives, n calls deep at most -/
def sameN : Nat → Dt → Dt → R Bool
  | 0, _, _ => .no
  | n + 1, a, .tup es => match a with
    | .tup as => if as.length = es.length then R.need (es.length ≤ 100000 ∧ ((as.zip es).all fun p => (sameN n p.1 p.2).isOk) = true) (.ok ((as.zip es).all fun p => (sameN n p.1 p.2).isTrue)) else .ok false
    | a => R.need ((tyD a).isSome = true) (.ok false)
  | n + 1, a, .lst es => match a with
    | .lst as => sameN n (.tup as) (.tup es)
    | a => R.need ((tyD a).isSome = true) (.ok false)
  | n + 1, a, .str x => match a with
    | .str y => .ok (decide (y = x))
    | a => R.need ((tyD a).isSome = true) (.ok false)
  | n + 1, a, .non => .ok (isNonD a)
  | n + 1, a, .bl b => match a with
    | .bl c => .ok (decide (c = b))
    | a => R.need ((tyD a).isSome = true) (.ok false)
  | n + 1, a, .int i => match a with
    | .int j => .ok (decide (j = i))
    | a => R.need ((tyD a).isSome = true) (.ok false)
  | _, _, _ => .no
/-- an encoding that it compares rightly -/
def SamE (n : Nat) {α : Type} [DecidableEq α] (e : α → Dt) : Prop := ∀ m, n ≤ m → ∀ a b, sameN m (e a) (e b) = .ok (decide (a = b))
theorem samE_int : SamE 1 eI := fun m hm a b => by
  obtain ⟨m, rfl⟩ : ∃ k, m = k + 1 := ⟨m - 1, by omega⟩
  rfl
theorem samE_str : SamE 1 eS := fun m hm a b => by
  obtain ⟨m, rfl⟩ : ∃ k, m = k + 1 := ⟨m - 1, by omega⟩
  rfl
/-- encodings of lists that are not too long -/
def SamB (n : Nat) {α : Type} [DecidableEq α] (e : α → Dt) (ok : α → Prop) : Prop := ∀ m, n ≤ m → ∀ a b, ok b → sameN m (e a) (e b) = .ok (decide (a = b))
theorem SamE.b {n : Nat} {α : Type} [DecidableEq α] {e : α → Dt} (h : SamE n e) : SamB n e (fun _ => True) := fun m hm a b _ => h m hm a b
theorem all_trueB {α : Type} [DecidableEq α] {e : α → Dt} {n : Nat} {ok : α → Prop} (h : ∀ a b, ok b → sameN n (e a) (e b) = .ok (decide (a = b))) : ∀ xs ys : List α, xs.length = ys.length → (∀ y ∈ ys, ok y) →
    (((xs.map e).zip (ys.map e)).all fun p => (sameN n p.1 p.2).isOk) = true ∧ (((xs.map e).zip (ys.map e)).all fun p => (sameN n p.1 p.2).isTrue) = decide (xs = ys)
  | [], [], _, _ => ⟨rfl, rfl⟩
  | a :: xs, b :: ys, hl, ho => by
    obtain ⟨i1, i2⟩ := all_trueB h xs ys (by simpa using hl) (fun y hy => ho y (List.mem_cons_of_mem _ hy))
    rw [List.map_cons, List.map_cons, List.zip_cons_cons, List.all_cons, List.all_cons, i1, i2]
    simp only [h a b (ho b List.mem_cons_self)]
    refine ⟨rfl, ?_⟩
    by_cases e1 : a = b <;> simp [e1, R.isTrue]
theorem samB_tup {α : Type} [DecidableEq α] {e : α → Dt} {n : Nat} {ok : α → Prop} (h : SamB n e ok) : SamB (n + 1) (eT e) (fun ys => ys.length ≤ 100000 ∧ ∀ y ∈ ys, ok y) := fun m hm xs ys hl => by
  obtain ⟨m, rfl⟩ : ∃ k, m = k + 1 := ⟨m - 1, by omega⟩
  show (if (xs.map e).length = (ys.map e).length then _ else _) = _
  rw [List.length_map, List.length_map]
  by_cases hz : xs.length = ys.length
  · obtain ⟨i1, i2⟩ := all_trueB (h m (by omega)) xs ys hz hl.2
    rw [if_pos hz, R.need_pos ⟨hl.1, i1⟩, i2]
  · rw [if_neg hz, decide_eq_false]
    rintro rfl
    exact hz rfl
theorem samB_lst {α : Type} [DecidableEq α] {e : α → Dt} {n : Nat} {ok : α → Prop} (h : SamB n e ok) : SamB (n + 2) (eL e) (fun ys => ys.length ≤ 100000 ∧ ∀ y ∈ ys, ok y) := fun m hm xs ys hl => by
  obtain ⟨m, rfl⟩ : ∃ k, m = k + 1 := ⟨m - 1, by omega⟩
  exact samB_tup h m (by omega) xs ys hl
theorem samB_p2 {α β : Type} [DecidableEq α] [DecidableEq β] {e1 : α → Dt} {e2 : β → Dt} {n : Nat} {ok1 : α → Prop} {ok2 : β → Prop} (h1 : SamB n e1 ok1) (h2 : SamB n e2 ok2) : SamB (n + 1) (eP2 e1 e2) (fun p => ok1 p.1 ∧ ok2 p.2) := fun m hm x y hl => by
  obtain ⟨m, rfl⟩ : ∃ k, m = k + 1 := ⟨m - 1, by omega⟩
  have a1 := h1 m (by omega) x.1 y.1 hl.1
  have a2 := h2 m (by omega) x.2 y.2 hl.2
  have hok : (([e1 x.1, e2 x.2].zip [e1 y.1, e2 y.2]).all fun p => (sameN m p.1 p.2).isOk) = true := by simp [a1, a2, R.isOk]
  have htr : (([e1 x.1, e2 x.2].zip [e1 y.1, e2 y.2]).all fun p => (sameN m p.1 p.2).isTrue) = decide (x = y) := by
    obtain ⟨a, b⟩ := x
    obtain ⟨c, d⟩ := y
    simp only [List.zip_cons_cons, List.zip_nil_left, List.all_cons, List.all_nil, a1, a2]
    by_cases h1 : a = c <;> by_cases h2 : b = d <;> simp [h1, h2, R.isTrue]
  show R.need ([e1 y.1, e2 y.2].length ≤ 100000 ∧ _) (R.ok _) = _
  rw [R.need_pos ⟨by show 2 ≤ 100000; omega, hok⟩, htr]
theorem sameN_ne : ∀ (n : Nat) (a e : Dt) (x : Exn), sameN n a e ≠ .ex x
  | 0, _, _, _, h => by cases h
  | n + 1, a, .tup es, x, h => by
    cases a <;> simp only [sameN, R.need] at h <;> (repeat' split at h) <;> cases h
  | n + 1, a, .lst es, x, h => by
    cases a with
    | lst as => exact sameN_ne n (.tup as) (.tup es) x h
    | _ => simp only [sameN, R.need] at h <;> (repeat' split at h) <;> cases h
  | n + 1, a, .str y, x, h => by
    cases a <;> simp only [sameN, R.need] at h <;> (repeat' split at h) <;> cases h
  | n + 1, a, .non, x, h => by cases h
  | n + 1, a, .bl y, x, h => by
    cases a <;> simp only [sameN, R.need] at h <;> (repeat' split at h) <;> cases h
  | n + 1, a, .int y, x, h => by
    cases a <;> simp only [sameN, R.need] at h <;> (repeat' split at h) <;> cases h
  | n + 1, a, .dic _ _, x, h => by simp [sameN] at h
  | n + 1, a, .dit _ _, x, h => by simp [sameN] at h
  | n + 1, a, .obj _ _ _, x, h => by simp [sameN] at h
  | n + 1, a, .exc _ _ _, x, h => by simp [sameN] at h
  | n + 1, a, .ty _, x, h => by simp [sameN] at h
  | n + 1, a, .adr _, x, h => by simp [sameN] at h
section
variable {P : Program} {w : World} {K : PySem.W.Frag} {env : En} {te : TE}
theorem isNon_dec {d : Dt} {F1 : Hp} {v : V} (r : Rp K F1 d v) : decide (v = V.non) = isNonD d := by
  cases d with
  | non => cases r; rfl
  | bl b => cases r; rfl
  | int b => cases r; rfl
  | str b => cases r; rfl
  | tup b => obtain ⟨_, _, rfl, _⟩ := r; rfl
  | lst b => obtain ⟨_, _, rfl, _⟩ := r; rfl
  | dic a b => obtain ⟨_, _, rfl, _⟩ := r; rfl
  | dit a b => obtain ⟨_, _, rfl, _⟩ := r; rfl
  | obj a b c => obtain ⟨_, _, _, rfl, _⟩ := r; rfl
  | exc a b c => obtain ⟨_, _, rfl, _⟩ := r; rfl
  | ty b => cases r; rfl
  | adr b => cases r; rfl
theorem ep_isN {d : Dt} (h : Ep P w K te env d) : Ep P w K (tOp rIsN te (tC .non)) env (.bl (isNonD d)) := fun F0 H0 F H σ S Q q => h F0 H0 F H σ S _ fun v F1 H1 k r => by
  refine ⟨rfl, ?_⟩
  rw [isNon_dec r]
  exact q _ F1 H1 k rfl
end
end Mw
set_option maxHeartbeats 1000000
namespace Mw
open PySem PySem.Spec PyProof.Rows L2 Qw
open Evl hiding ea_cons
open Pw (Dt)
section
variable {α β γ σ σ' τ ρ : Type}
@[irreducible] def Holds (m : R α) (Q : α → Prop) : Prop := match m with
  | .ok a => Q a
  | _ => False
theorem holds_ok {a : α} {Q : α → Prop} : Holds (.ok a) Q ↔ Q a := by
  unfold Holds
  exact Iff.rfl
theorem holds_ex {x : Exn} {Q : α → Prop} : Holds (.ex x) Q ↔ False := by
  unfold Holds
  exact Iff.rfl
theorem holds_no {Q : α → Prop} : Holds .no Q ↔ False := by
  unfold Holds
  exact Iff.rfl
theorem holds_bind {m : R α} {f : α → R β} {Q : β → Prop} : Holds (m.bind f) Q ↔ Holds m fun a => Holds (f a) Q := by
  unfold Holds
  cases m <;> exact Iff.rfl
theorem holds_bind2 {m : R (α × σ)} {f : α → σ → R β} {Q : β → Prop} : Holds (m.bind2 f) Q ↔ Holds m fun p => Holds (f p.1 p.2) Q := by
  unfold Holds
  cases m <;> exact Iff.rfl
theorem holds_nox {m : R α} {Q : α → Prop} : Holds m.nox Q ↔ Holds m Q := by
  unfold Holds
  cases m <;> exact Iff.rfl
theorem holds_need {c : Prop} [Decidable c] {m : R α} {Q : α → Prop} : Holds (R.need c m) Q ↔ c ∧ Holds m Q := by
  unfold R.need
  split
  · rename_i h
    exact ⟨fun q => ⟨h, q⟩, fun q => q.2⟩
  · rename_i h
    exact ⟨fun q => (holds_no.mp q).elim, fun q => absurd q.1 h⟩
/-- an end of a block -/
def onC (f : σ → Prop) (Q : Ctl σ' τ ρ → Prop) : Ctl σ τ ρ → Prop
  | .nx s => f s
  | .ct t => Q (.ct t)
  | .bk t => Q (.bk t)
  | .rt b => Q (.rt b)
theorem holds_bindC {m : R (Ctl σ τ ρ)} {k : σ → R (Ctl σ' τ ρ)} {Q : Ctl σ' τ ρ → Prop} : Holds (m.bindC k) Q ↔ Holds m (onC (fun s => Holds (k s) Q) Q) := by
  unfold Holds
  cases m with
  | ok c => cases c <;> exact Iff.rfl
  | ex x => exact Iff.rfl
  | no => exact Iff.rfl
theorem onC_nx {f : σ → Prop} {Q : Ctl σ' τ ρ → Prop} {s : σ} : onC f Q (.nx s) ↔ f s := Iff.rfl
def onR (Q : ρ → Prop) : Ctl σ τ ρ → Prop
  | .rt b => Q b
  | _ => False
theorem onR_rt {Q : ρ → Prop} {b : ρ} : onR (σ := σ) (τ := τ) Q (.rt b) ↔ Q b := Iff.rfl
theorem holds_fin {m : R (Ctl σ τ ρ)} {Q : ρ → Prop} : Holds m.fin Q ↔ Holds m (onR Q) := by
  unfold Holds
  cases m with
  | ok c => cases c <;> exact Iff.rfl
  | ex x => exact Iff.rfl
  | no => exact Iff.rfl
theorem Holds.imp {m : R α} {Q Q' : α → Prop} (h : Holds m Q) (i : ∀ a, Q a → Q' a) : Holds m Q' := by
  unfold Holds at h ⊢
  cases m with
  | ok a => exact i a h
  | ex x => exact h
  | no => exact h
theorem holds_eq {m : R α} {b : α} : Holds m (fun a => a = b) ↔ m = .ok b := by
  unfold Holds
  cases m with
  | ok a => exact ⟨fun h => by rw [show a = b from h], fun h => R.ok.inj h⟩
  | ex x => exact ⟨fun h => h.elim, fun h => nomatch h⟩
  | no => exact ⟨fun h => h.elim, fun h => nomatch h⟩
theorem Holds.ex {m : R α} {Q : α → Prop} (h : Holds m Q) : ∃ a, m = .ok a ∧ Q a := by
  unfold Holds at h
  cases m with
  | ok a => exact ⟨a, rfl, h⟩
  | ex x => exact h.elim
  | no => exact h.elim
theorem Holds.of {m : R α} {Q : α → Prop} {a : α} (h : m = .ok a) (q : Q a) : Holds m Q := by rw [h]; exact holds_ok.mpr q
/-- a turn of a for -/
def onF (I : σ → Prop) (Q : Ctl σ τ ρ → Prop) : Ctl σ σ ρ → Prop
  | .nx s => I s
  | .ct s => I s
  | .bk s => Q (.nx s)
  | .rt b => Q (.rt b)
theorem onF_nx {I : σ → Prop} {Q : Ctl σ τ ρ → Prop} {s : σ} : onF I Q (.nx s) ↔ I s := Iff.rfl
theorem onF_ct {I : σ → Prop} {Q : Ctl σ τ ρ → Prop} {s : σ} : onF I Q (.ct s) ↔ I s := Iff.rfl
/-- by what is left -/
theorem holds_for {f : σ → α → R (Ctl σ σ ρ)} {Q : Ctl σ τ ρ → Prop} (I : σ → List α → Prop) : ∀ (xs : List α) (s0 : σ), I s0 xs → (∀ s a r, I s (a :: r) → Holds (f s a) (onF (fun s' => I s' r) Q)) → (∀ s, I s [] → Q (.nx s)) → Holds (R.forR xs s0 f) Q
  | [], s0, h0, _, hd => holds_ok.mpr (hd s0 h0)
  | a :: r, s0, h0, hs, hd => by
    have h := hs s0 a r h0
    rw [R.forR]
    cases e : f s0 a with
    | ok c =>
      rw [e, holds_ok] at h
      cases c with
      | nx s => exact holds_for I r s h hs hd
      | ct s => exact holds_for I r s h hs hd
      | bk s => exact holds_ok.mpr h
      | rt b => exact holds_ok.mpr h
    | ex x => rw [e] at h; exact (by first | exact (holds_ex.mp h).elim | exact (holds_no.mp h).elim)
    | no => rw [e] at h; exact (by first | exact (holds_ex.mp h).elim | exact (holds_no.mp h).elim)
/-- by what is done -/
theorem holds_forD {f : σ → α → R (Ctl σ σ ρ)} {Q : Ctl σ τ ρ → Prop} (I : σ → List α → Prop) (xs : List α) (s0 : σ) (h0 : I s0 []) (hs : ∀ s pre a post, xs = pre ++ a :: post → I s pre → Holds (f s a) (onF (fun s' => I s' (pre ++ [a])) Q)) (hd : ∀ s, I s xs → Q (.nx s)) : Holds (R.forR xs s0 f) Q := by
  refine holds_for (fun s r => ∃ pre, xs = pre ++ r ∧ I s pre) xs s0 ⟨[], rfl, h0⟩ (fun s a r ⟨pre, e, h⟩ => ?_) (fun s ⟨pre, e, h⟩ => hd s (by rw [e, List.append_nil]; exact h))
  refine (hs s pre a r e h).imp fun c hc => ?_
  cases c with
  | nx s => exact ⟨pre ++ [a], by simp [e], hc⟩
  | ct s => exact ⟨pre ++ [a], by simp [e], hc⟩
  | bk s => exact hc
  | rt b => exact hc
/-- a for over range(n), by the turn -/
theorem rangeI_len {lo : Int} {n : Nat} : (rangeI lo n).length = n := by simp [rangeI]
theorem rangeI_get {lo : Int} {n i : Nat} (h : i < n) : (rangeI lo n)[i]? = some (lo + i) := by simp [rangeI, h]
theorem rangeI_mem {lo : Int} {n : Nat} {x : Int} : x ∈ rangeI lo n ↔ ∃ i : Nat, i < n ∧ x = lo + i := by
  unfold rangeI
  rw [List.mem_map]
  constructor
  · rintro ⟨i, h, rfl⟩
    exact ⟨i, by simpa using h, rfl⟩
  · rintro ⟨i, h, rfl⟩
    exact ⟨i, by simpa using h, rfl⟩
theorem rangeI0_map {n : Nat} {f : Int → β} : (rangeI 0 n).map f = (List.range n).map fun i : Nat => f (i : Int) := by
  unfold rangeI
  rw [List.map_map]
  apply List.map_congr_left
  intro i _
  simp
theorem holds_rng {f : σ → Int → R (Ctl σ σ ρ)} {Q : Ctl σ τ ρ → Prop} (I : σ → Nat → Prop) (lo : Int) (n : Nat) (s0 : σ) (h0 : I s0 0) (hs : ∀ s (i : Nat), i < n → I s i → Holds (f s (lo + i)) (onF (fun s' => I s' (i + 1)) Q)) (hd : ∀ s, I s n → Q (.nx s)) : Holds (R.forR (rangeI lo n) s0 f) Q := by
  refine holds_forD (fun s pre => I s pre.length) _ s0 h0 (fun s pre a post e h => ?_) (fun s h => hd s (by rwa [rangeI_len] at h))
  have hl : pre.length < n := by
    have := congrArg List.length e
    simp [rangeI_len] at this
    omega
  have ha : a = lo + pre.length := by
    have h1 := rangeI_get (lo := lo) hl
    rw [e] at h1
    simpa using h1
  subst ha
  refine (hs s pre.length hl h).imp fun c hc => ?_
  cases c with
  | nx s => rw [onF_nx] at hc ⊢; rwa [List.length_append]
  | ct s => rw [onF_ct] at hc ⊢; rwa [List.length_append]
  | bk s => exact hc
  | rt b => exact hc
/-- .. with the state: without a test, what each part is -/
theorem holds_lcGS {f : α → σ → R (β × σ)} (I : σ → Prop) (Rel : α → β → Prop) : ∀ (xs : List α) (s : σ), I s → (∀ a ∈ xs, ∀ s, I s → Holds (f a s) fun p => Rel a p.1 ∧ I p.2) → Holds (R.lcGS xs s (fun _ s => .ok (true, s)) f) fun p => (p.1.length = xs.length ∧ ∀ (i : Nat) (a : α) (y : β), xs[i]? = some a → p.1[i]? = some y → Rel a y) ∧ I p.2
  | [], s, h0, _ => holds_ok.mpr ⟨⟨rfl, fun i a y h => by simp at h⟩, h0⟩
  | a :: r, s, h0, h => by
    unfold R.lcGS
    simp only [R.bind2_ok, if_true]
    rw [holds_bind2]
    refine (h a List.mem_cons_self s h0).imp fun p hp => ?_
    rw [holds_bind2]
    refine (holds_lcGS I Rel r p.2 hp.2 fun b hb => h b (List.mem_cons_of_mem _ hb)).imp fun q hq => ?_
    rw [holds_ok]
    refine ⟨⟨by simp [hq.1.1], fun i c y h1 h2 => ?_⟩, hq.2⟩
    cases i with
    | zero =>
      simp at h1 h2
      rw [← h1, ← h2]
      exact hp.1
    | succ i => exact hq.1.2 i c y (by simpa using h1) (by simpa using h2)
theorem holds_lcS {f : α → σ → R (β × σ)} (I : σ → Prop) (Rel : α → β → Prop) {xs : List α} {s : σ} {Q : List β × σ → Prop} (hl : xs.length ≤ 40000) (h0 : I s) (h : ∀ a ∈ xs, ∀ s, I s → Holds (f a s) fun p => Rel a p.1 ∧ I p.2) (hq : ∀ l s', l.length = xs.length → (∀ (i : Nat) (a : α) (y : β), xs[i]? = some a → l[i]? = some y → Rel a y) → I s' → Q (l, s')) : Holds (R.lcS xs s (fun _ s => .ok (true, s)) f) Q := by
  unfold R.lcS
  rw [R.need_pos hl]
  exact (holds_lcGS I Rel xs s h0 h).imp fun p hp => hq p.1 p.2 hp.1.1 hp.1.2 hp.2
/-- draws -/
theorem holds_draw {d : Dr} {n : Int} {Q : Int × Dr → Prop} (h0 : 0 < n) (h1 : n < 1073741824) (hq : ∀ v d', 0 ≤ v → v < n → Q (v, d')) : Holds (drawR d n) Q := by
  rw [drawR_ok h0 h1, holds_ok]
  exact hq _ _ (drV_ge d h0) (drV_lt d h0)
end
end Mw
set_option maxHeartbeats 1000000
namespace Mw
open PySem PySem.Spec PyProof.Rows L2 Qw
open Evl hiding ea_cons
open Pw (Dt Rp RpL Wk R2d R1d RLd RLn Kq KqL none_sub spX2 get_set set_same set_ne)
section
variable {P : Program} {w : World} {K : PySem.W.Frag} {mg : Str → Option Value} {base : Heap} {Rr : List Dt → Rs → Prop}
/-- a method that may raise -/
theorem Mx.ofX {C : Addr} {m q : Str} {ps N : List Str} {st : Stmt} {k : Nat} (D : Dm K C m q ps st) (S : FnScope N ps (defScope st)) (hl : ∀ ds r, Rr ds r → ds.length = ps.length)
    (hb : ∀ (f : Addr) (cdv : Value) (A : Around) (outer : List Env) (s : Shared) (H : Hp) (E : XK), Room k (A.deeper (envOfC q (defScope st) s.heap.objs.size f cdv)) →
      Takes (cxOf (L2.CX P w) P w K mg base N q (defScope st) f cdv A outer s H E) (fun cls d _ H => E cls d H) →
      ∃ t, PSs (cxOf (L2.CX P w) P w K mg base N q (defScope st) f cdv A outer s H E) (defBody st) t ∧ ∀ ds r, Rr ds r → Does P w K E t (ds.map Sl.d ++ List.replicate (N.length - ds.length) Sl.u) r) :
    Mx P w K mg base (k + 1) C m ps (spR P w K Rr) := by
  obtain ⟨f, fd, h1, F, h3⟩ := D
  refine ⟨f, fd, h1, h3, F.ok S (fun vs H Q E h => spR_len hl vs H Q E h) fun cdv A outer s H vs Q E hr h => ?_⟩
  obtain ⟨t, ht, hs⟩ := hb f cdv A outer s H E hr (takes_of rfl rfl rfl rfl)
  exact ⟨t, ht, run_r h hs⟩
end
namespace R
variable {σ τ ρ : Type}
/-- what an __init__ stores -/
def finI : R (Ctl σ τ ρ) → R σ
  | .ok (.nx s) => .ok s
  | .ex x => .ex x
  | _ => .no
end R
section
variable {P : Program} {w : World} {K : PySem.W.Frag} {W : WX} {eX : En} {α β γ δ σ σ' τ ρ : Type} {env env1 env2 : En} {ta tb te tc : TE} {tt tu : TT} {tA tr : TA} {wi : TI} {r : R2} {g : TG} {en : σ → En} {da : α → Dt} {db : β → Dt} {dz : γ → Dt} {C : Addr} {fs : List Str} {ds es : List Dt}
def GotI (K : PySem.W.Frag) (fs : List Str) (m : R β) (ef : β → List Dt) (r : Ri) : Prop := match m with
  | .ok b => r = .f fs (ef b)
  | .ex x => r = .x (x.xn K)
  | .no => False
def RI (K : PySem.W.Frag) (fs : List Str) (ea : α → List Dt) (m : α → R β) (ef : β → List Dt) (ds : List Dt) (r : Ri) : Prop := ∃ a, ds = ea a ∧ GotI K fs (m a) ef r
theorem does_i {E : XK} {s : TS} {p : Addr} {env : En} {m : R (Ctl σ τ ρ)} {eL : τ → En} {out : ρ → Out} {eN : σ → En} {ef : σ → List Dt} {rr : Ri} (h : Sx P w K (WD E) eX eL out s env m eN) (he : ∀ v, (eN v)[0]? = some (.ow (some p) (.ins C fs (ef v)))) (hr : GotI K fs m.finI ef rr) : DoesI P w K E C p s env rr := by
  cases m with
  | ok c =>
    cases c with
    | nx v => rw [show rr = .f fs (ef v) from hr]; exact ⟨_, he v, h⟩
    | rt b => exact False.elim hr
    | ct v => exact False.elim hr
    | bk v => exact False.elim hr
  | ex x => rw [show rr = .x (x.xn K) from hr]; exact ⟨eX, h⟩
  | no => exact False.elim hr
variable {eL : τ → En} {out : ρ → Out} {s s1 s2 : TS} {eN : σ → En}
theorem sx_fld {i : Nat} {t : Option Addr} {n : Str} {m : R α} {k : α → R (Ctl σ τ ρ)} (c : Cls K C) (hn : NoAttr K C n) (h : Xp P w K W eX te env m da) (hi : env[i]? = some (.ow t (.ins C fs ds))) (hc : fs.contains n = false) (hz : fs.length < 900)
    (hk : ∀ a, Sx P w K W eX eL out s2 (env.set i (.ow t (.ins C (fs ++ [n]) (ds ++ [da a])))) (k a) eN) : Sx P w K W eX eL out (tSeq (sFld K (tVar i) te n) s2) env (m.bind k) eN := by
  cases m with
  | ok a => exact sx_seqE (se_fldN c hn (ee_p h) hi hc hz) (hk a)
  | ex x => exact se_seqF (o := .rz W (x.xn K) eX) (fun F0 H0 F H σ D S p => h F0 H0 F H σ S _ fun od F1 H1 e S1 => p od F1 H1 σ e S1)
  | no => trivial
theorem xo_make {E : XK} {ea : α → List Dt} {m : α → R β} {ef : β → List Dt} {ma : R α} (h : Xa P w K W eX tA env ma ea) {u : β → Ow} (hu : ∀ b, u b = .ins C fs (ef b)) : Xo P w K W eX (tMake C (spI P w K C (RI K fs ea m ef)) [] E tA) env (ma.bind fun a => (m a).nox) u := by
  cases ma with
  | ok a =>
    show Xo P w K W eX _ env (m a).nox u
    cases e : m a with
    | ok c =>
      show EpO P w K _ env (u c)
      rw [hu c]
      exact po_make h ⟨a, rfl, by rw [e]; rfl⟩
    | ex x => trivial
    | no => trivial
  | ex x => exact fun F0 H0 F H σ S Q q => h F0 H0 F H σ S _ q
  | no => trivial
theorem er_meth2 {sp : Sp} {nm : Str} {E : XK} {x : Xn} (h : Ep P w K ta env (.obj C fs es)) (hA : ErA P w K W tA env x eX) (hm : fs.contains nm = false) : Er P w K W (tMeth C nm sp [] E ta tA) env x eX := fun F0 H0 F H σ S Q q => h F0 H0 F H σ S _ fun v F1 H1 k1 r => by
  obtain ⟨a, dx, vs, rfl, h1, h2, h3⟩ := r
  exact ⟨a, dx, _, rfl, k1.s a _ h1, zip_none hm, hA F0 H0 F1 H1 σ (S.wk k1) _ fun od F2 H2 e => q od F2 H2 (k1.f.trans e)⟩
theorem xp_meth {E : XK} {nm : Str} {v : δ} {dA : α → List Dt} {ea : δ × α → List Dt} {m : δ × α → R γ} {er : γ → Rs} {ma : R α} (h : Ep P w K ta env (.obj C fs es)) (hA : Xa P w K W eX tA env ma dA) (hea : ∀ a, ea (v, a) = .obj C fs es :: dA a) (hd : ∀ c, er c = .d (dz c)) (hm : fs.contains nm = false := by decide +kernel) :
    Xp P w K W eX (tMeth C nm (spR P w K (RF K ea m er)) [] E ta tA) env (ma.bind fun a => (m (v, a)).nox) dz := by
  cases ma with
  | ok a =>
    show Xp P w K W eX _ env (m (v, a)).nox dz
    cases e : m (v, a) with
    | ok c => exact ep_meth h hA ⟨(v, a), (hea a).symm, by rw [e]; exact (hd c).symm⟩ hm
    | ex x => trivial
    | no => trivial
  | ex x => exact er_meth2 h hA hm
  | no => trivial
theorem xo_meth {E : XK} {nm : Str} {v : δ} {dA : α → List Dt} {ea : δ × α → List Dt} {m : δ × α → R γ} {er : γ → Rs} {u : γ → Ow} {ma : R α} (h : Ep P w K ta env (.obj C fs es)) (hA : Xa P w K W eX tA env ma dA) (hea : ∀ a, ea (v, a) = .obj C fs es :: dA a) (hd : ∀ c, er c = .o (u c)) (hm : fs.contains nm = false := by decide +kernel) :
    Xo P w K W eX (tMeth C nm (spR P w K (RF K ea m er)) [] E ta tA) env (ma.bind fun a => (m (v, a)).nox) u := by
  cases ma with
  | ok a =>
    show Xo P w K W eX _ env (m (v, a)).nox u
    cases e : m (v, a) with
    | ok c => exact po_meth h hA ⟨(v, a), (hea a).symm, by rw [e]; exact (hd c).symm⟩ hm
    | ex x => trivial
    | no => trivial
  | ex x => exact er_meth2 h hA hm
  | no => trivial
theorem xp_any {m : R α} (h : Xp P w K W eX te env m da) : Xp P w K W eX te env (m.bind fun a => .ok (da a)) eD := by
  cases m <;> exact h
def repLR (xs : List α) (k : Int) : R (List α) := R.need (xs.length * k.toNat ≤ 100000 ∧ -(2 ^ 63) ≤ k ∧ k < 2 ^ 63) (.ok (List.replicate k.toNat xs).flatten)
theorem repLR_ok {a : α} {k : Int} (h : 0 ≤ k ∧ k ≤ 100000) : repLR [a] k = .ok (List.replicate k.toNat a) := by
  unfold repLR
  rw [R.need_pos ⟨by simp; omega, by omega, by omega⟩]
  congr 1
  induction k.toNat with
  | zero => rfl
  | succ n ih => rw [List.replicate_succ, List.flatten_cons, ih, List.replicate_succ]; rfl
theorem yo_rep {e : α → Dt} {xs : List α} {m : R (Int × σ)} (h : EpO P w K ta env (oL e xs)) (hk : Ye P w K W eX tb env m eI en) : Yo P w K W eX (tOp rRep ta tb) env (m.bind2 fun k s => (repLR xs k).bind fun z => .ok (z, s)) (oL e) en := by
  cases m with
  | ok p =>
    obtain ⟨k, s⟩ := p
    show Yo P w K W eX _ env ((repLR xs k).bind fun z => .ok (z, s)) (oL e) en
    unfold repLR R.need
    split
    · rename_i hz
      refine ⟨hk.1, fun F0 H0 F H σ S Q q => h F0 H0 F H σ S _ fun p o F1 H1 k1 n1 n2 h1 r1 => ?_⟩
      obtain ⟨vs, rfl, r1⟩ := r1
      have S1 := S.wk k1
      have no : ¬ Own σ env p := S.ownNew n1
      refine hk.2 F0 H0 F1 H1 σ S1 _ fun v F2 H2 k2 S2 r2 => ?_
      cases r2
      refine ⟨p, k, vs, rfl, rfl, k2.h p _ h1 no, hz.2.1, hz.2.2, by rw [← r1.length, List.length_map]; exact sz_of hz.1, fun D hD => ?_⟩
      have kD : Wk F2 H2 F2 (L2.upd H2 D (.lst (List.replicate k.toNat vs).flatten)) := Wk.own S2.sub _ hD
      refine q D _ F2 _ ((Wo.of k1).trans Sh.refl (k2.trans hk.1 (.of kD))) (S2.wk kD) (none_sub k1.h (k2.b D hD)) (none_sub S2.sub hD) upd_same ⟨_, rfl, ?_⟩
      show RpL K F2 (((List.replicate k.toNat xs).flatten).map e) _
      rw [map_repl]
      have r3 := r1.mono k2.f
      clear q kD
      induction k.toNat with
      | zero => exact rfl
      | succ n ih => rw [List.replicate_succ, List.flatten_cons, List.replicate_succ, List.flatten_cons]; exact r3.append ih
    · trivial
  | ex x => exact fun F0 H0 F H σ S Q q => h F0 H0 F H σ S _ fun p o F1 H1 k1 n1 n2 h1 r1 => hk F0 H0 F1 H1 σ (S.wk k1) _ fun od F2 H2 e => q od F2 H2 (k1.f.trans e)
  | no => trivial
theorem xo_rep {e : α → Dt} {xs : List α} {m : R Int} (h : EpO P w K ta env (oL e xs)) (hk : Xp P w K W eX tb env m eI) : Xo P w K W eX (tOp rRep ta tb) env (m.bind fun k => repLR xs k) (oL e) := by
  have hy := yo_rep (W := W) (eX := eX) (en := fun _ : Unit => env) (m := m.bind fun k => .ok (k, ())) h (ye_p (en := fun _ : Unit => env) hk rfl)
  cases m with
  | ok k =>
    show Xo P w K W eX _ env (repLR xs k) (oL e)
    cases q : repLR xs k with
    | ok l =>
      have hy : Yo P w K W eX _ env ((repLR xs k).bind fun z => .ok (z, ())) (oL e) (fun _ : Unit => env) := hy
      rw [q] at hy
      refine fun F0 H0 F H σ S Q q' => h F0 H0 F H σ S _ fun p o F1 H1 k1 n1 n2 h1 r1 => ?_
      unfold repLR R.need at q
      split at q
      · rename_i hz
        cases q
        obtain ⟨vs, rfl, r1⟩ := r1
        refine hk F0 H0 F1 H1 σ (S.wk k1) _ fun v F2 H2 k2 r2 => ?_
        cases r2
        refine ⟨p, k, vs, rfl, rfl, k2.h p _ h1, hz.2.1, hz.2.2, by rw [← r1.length, List.length_map]; exact sz_of hz.1, fun D hD => ?_⟩
        have kD : Wk F2 H2 F2 (L2.upd H2 D (.lst (List.replicate k.toNat vs).flatten)) := Wk.own k2.s _ hD
        refine q' D _ F2 _ ((k1.trans k2).trans kD) (none_sub k1.h (none_sub k2.h hD)) (none_sub k2.s hD) upd_same ⟨_, rfl, ?_⟩
        show RpL K F2 (((List.replicate k.toNat xs).flatten).map e) _
        rw [map_repl]
        have r3 := r1.mono k2.f
        clear q' kD hy
        induction k.toNat with
        | zero => exact rfl
        | succ n ih => rw [List.replicate_succ, List.flatten_cons, List.replicate_succ, List.flatten_cons]; exact r3.append ih
      · cases q
    | ex x =>
      unfold repLR R.need at q
      split at q <;> cases q
    | no => trivial
  | ex x => exact hy
  | no => trivial
end
end Mw
set_option maxHeartbeats 1000000
namespace Qw
open PySem PySem.Spec PyProof.Rows L2 Evl
section
variable {X : Cx} {x m : Str} {C : Addr} {ps : List Str} {sp : Sp} {k : Nat} {e o : Expr} {es : List Expr} {t : TA} {ta : TE} {p pos apos : Pos} {W : WX}
/-- o.m(..), what it lets out wished for at the slots -/
def tMetE (C : Addr) (m : Str) (sp : Sp) (E : L2.St → XK) (ta : TE) (t : TA) : TE := fun σ H Q => ta σ H fun x H1 => ∃ a dx fs, x = V.ref a ∧ H1 a = some (HO.ins C dx fs) ∧ fs.lookup m = none ∧ t σ H1 fun vs H2 => sp (x :: vs) H2 Q (E σ)
theorem pe_mxS {pl : Sem Bool} (F : Mx X.prog X.w X.K X.mg X.base k C m ps sp) (c : Cls X.K C) (hr : Room k X.A) (tk : Takes X W) (ho : PE X o ta) (ha : PA X (e :: es) t)
    (hst : starEach (e :: es) X.env = (false, eval e X.env) :: starEach es X.env := by rfl) (hpl : (backTo pos (starEach es X.env)).any (·.1) = false := by rfl)
    (ht : eval (.Call (.Attribute o m apos) (e :: es) [] pos) X.env = (do
      let z ← eval o X.env
      standAt apos.atName
      let (g, one) ← holding [z] (getMethod z m pl)
      callWith pos g one (backTo pos (starEach (e :: es) X.env)) (backToKw pos (keywordEach [] X.env))) := by rfl) :
    PE X (.Call (.Attribute o m apos) (e :: es) [] pos) (tMetE C m sp (WE W) ta t) := by
  obtain ⟨f, fd, hm, hb, F⟩ := F
  have hb := hb
  refine ⟨fun pins s σ H Q I h => PySem.W.methodCall_KW (pl := pl) (thn (ho.run pins s σ H _ I h) fun u s1 ⟨x, H1, I1, rx, a, dx, fs, ex, ea, l, q⟩ => ?_) ht⟩
  subst ex
  cases (show u = Value.ref a from rx)
  refine getmeth_ok I1 ea c hm l (PySem.W.callWith_K (first := [.ref a]) (h₀ := X.base) I.ok.mod.kin hm.kp (thn (ha.run pos pins s1 σ H1 _ I1 q) fun us s2 ⟨vs, H2, I2, r, q2⟩ => ⟨I2.kIn, ?_⟩) hst hpl)
  exact run_fnS (us := .ref a :: us) (vs := .ref a :: vs) F hr hb (passAt tk σ) I2 (.cons rfl r) q2
end
end Qw
namespace Mw
open PySem PySem.Spec PyProof.Rows L2 Qw
open Evl hiding ea_cons
open Pw (Dt Rp RpL Wk R2d R1d RLd RLn Kq KqL none_sub spX2 get_set set_same set_ne)
section
variable {P : Program} {w : World} {K : PySem.W.Frag} {W Wout : WX} {eX eB : En} {α β γ δ σ σ' τ ρ : Type} {env env1 env2 : En} {ta tb te tc : TE} {tt tu : TT} {tA tr : TA} {C : Addr} {fs : List Str} {es : List Dt} {dz : γ → Dt}
/-- what is raised of the classes cs is caught -/
def R.catch (cs : List Str) (m h : R (Ctl σ τ ρ)) : R (Ctl σ τ ρ) := match m with
  | .ex x => if cs.contains x.C = true then h else .no
  | m => m
@[simp] theorem catch_ok {cs : List Str} {c : Ctl σ τ ρ} {h : R (Ctl σ τ ρ)} : R.catch cs (.ok c) h = .ok c := rfl
end
end Mw
set_option maxHeartbeats 1000000
namespace Mw
open PySem PySem.Spec PyProof.Rows L2 Qw
open Evl hiding ea_cons
open Pw (Dt Rp RpL Wk R2d R1d RLd RLn Kq KqL none_sub spX2 get_set set_same set_ne)
section
variable {P : Program} {w : World} {K : PySem.W.Frag} {W : WX} {eX : En} {α β γ δ σ σ' τ ρ : Type} {env env1 env2 : En} {ta tb te tc : TE} {tt tu : TT} {tA tr : TA}
def R.ofO (o : Option α) : R α := match o with
  | some a => .ok a
  | none => .no
def asI : Dt → Option Int
  | .int i => some i
  | _ => none
def asS : Dt → Option Str
  | .str s => some s
  | _ => none
def asMap (f : Dt → Option α) : List Dt → Option (List α)
  | [] => some []
  | d :: ds => match f d, asMap f ds with
    | some a, some l => some (a :: l)
    | _, _ => none
def asT (f : Dt → Option α) : Dt → Option (List α)
  | .tup ds => asMap f ds
  | _ => none
/-- what a cast gives, it was -/
def AsOk (f : Dt → Option α) (e : α → Dt) : Prop := ∀ d a, f d = some a ↔ d = e a
theorem as_int : AsOk asI eI := fun d a => by
  cases d <;> simp [asI, eI]
theorem as_str : AsOk asS eS := fun d a => by
  cases d <;> simp [asS, eS]
theorem as_map {f : Dt → Option α} {e : α → Dt} (h : AsOk f e) : ∀ ds l, asMap f ds = some l ↔ ds = l.map e
  | [], l => by cases l <;> simp [asMap]
  | d :: ds, l => by
    have ih := as_map h ds
    unfold asMap
    cases e1 : f d with
    | none =>
      cases l with
      | nil => simp
      | cons a l =>
        have : ¬ d = e a := fun z => by rw [(h d a).mpr z] at e1; cases e1
        simp [this]
    | some a =>
      have ha := (h d a).mp e1
      have hne : ∀ b, d = e b → a = b := fun b z => Option.some.inj (e1.symm.trans ((h d b).mpr z))
      cases e2 : asMap f ds with
      | none =>
        cases l with
        | nil => simp
        | cons b l =>
          have : ¬ ds = l.map e := fun z => by rw [(ih l).mpr z] at e2; cases e2
          simp [this]
      | some m =>
        have hm := (ih m).mp e2
        have hme : ∀ l, ds = l.map e → m = l := fun l z => Option.some.inj (e2.symm.trans ((ih l).mpr z))
        cases l with
        | nil => simp
        | cons b l =>
          simp only [Option.some.injEq, List.cons.injEq, List.map_cons]
          exact ⟨fun ⟨x, y⟩ => by subst x; subst y; exact ⟨ha, hm⟩, fun ⟨x, y⟩ => ⟨hne b x, hme l y⟩⟩
theorem as_tup {f : Dt → Option α} {e : α → Dt} (h : AsOk f e) : AsOk (asT f) (eT e) := fun d a => by
  cases d <;> first | (simp [asT, eT]; done) | skip
  rename_i ds
  show asMap f ds = some a ↔ Dt.tup ds = .tup (a.map e)
  rw [as_map h]
  exact ⟨fun z => by rw [z], fun z => Dt.tup.inj z⟩
theorem AsOk.mk {f : Dt → Option α} {e : α → Dt} (h : AsOk f e) (a : α) : f (e a) = some a := (h _ _).mpr rfl
theorem set_self {i : Nat} {s : Sl} (h : env[i]? = some s) : env.set i s = env := by
  apply List.ext_getElem?
  intro j
  rw [List.getElem?_set]
  split
  · rename_i e
    subst e
    rw [h]
    have := (List.getElem?_eq_some_iff.mp h).1
    simp [this]
  · rfl
theorem sx_cast {i : Nat} {f : Dt → Option α} {e : α → Dt} {d : Dt} {eL : τ → En} {out : ρ → Out} {s : TS} {k : α → R (Ctl σ τ ρ)} {eN : σ → En} (ok : AsOk f e) (hi : env[i]? = some (.d d)) (h : ∀ a, Sx P w K W eX eL out s (env.set i (.d (e a))) (k a) eN) : Sx P w K W eX eL out s env ((R.ofO (f d)).bind k) eN := by
  cases z : f d with
  | none => trivial
  | some a =>
    have hd := (ok d a).mp z
    have := h a
    rw [← hd, set_self hi] at this
    exact this
theorem xp_cast {f : Dt → Option α} {e : α → Dt} {d : Dt} (ok : AsOk f e) (h : Ep P w K te env d) : Xp P w K W eX te env (R.ofO (f d)) e := by
  cases z : f d with
  | none => trivial
  | some a =>
    have hd := (ok d a).mp z
    rw [hd] at h
    exact h
theorem xp_castM {f : Dt → Option α} {e : α → Dt} {m : R Dt} (ok : AsOk f e) (h : Xp P w K W eX te env m eD) : Xp P w K W eX te env (m.bind fun d => R.ofO (f d)) e := by
  cases m with
  | ok d => exact xp_cast ok h
  | ex x => exact h
  | no => trivial
def strI (i : Int) : Str := Str.ofString (toString i)
def strR (i : Int) : R Str := R.need (i.natAbs < 1000000) (.ok (strI i))
theorem xp_str {i : Int} (h : Ep P w K te env (eI i)) : Xp P w K W eX (tCB (fun xs H Q => ∃ j, xs = [V.int j] ∧ j.natAbs.log2 < 1920 ∧ Q (.str (toString j)) H) (tCons te tNil)) env (strR i) eS := by
  unfold strR R.need
  split
  · rename_i hi
    exact ep_cb (ap_cons h ap_nil) (rl_strI hi)
  · trivial
def addSR (v w : Str) : R Str := R.need (v.length + w.length ≤ 100000) (.ok (v ++ w))
theorem rm_addS {v w : Str} : R2m K (fun x y H Q => ∃ i j, x = V.str i ∧ y = V.str j ∧ i.length + j.length ≤ sizeLine ∧ Q (.str (i ++ j)) H) (eS v) (eS w) (addSR v w) eS := rm_need fun h => Pw.r2_addS h
theorem ints_rp {F : Hp} : ∀ ns : List Int, RpL K F (ns.map eI) (ns.map V.int)
  | [] => rfl
  | n :: ns => ⟨V.int n, ns.map V.int, rfl, rfl, ints_rp ns⟩
def tupRg (a b : Int) : R (List Int) := R.need (-100000 ≤ a ∧ a ≤ 100000 ∧ -100000 ≤ b ∧ b ≤ 100000) (.ok (rangeI a (b - a).toNat))
theorem xp_tupRg {a b : Int} (ha : Ep P w K ta env (eI a)) (hb : Ep P w K tb env (eI b)) : Xp P w K W eX (tTupRg (tRg2 ta tb)) env (tupRg a b) (eT eI) := by
  unfold tupRg R.need
  split
  · rename_i hc
    show Ep P w K _ env (.tup ((rangeI a (b - a).toNat).map eI))
    intro F0 H0 F H σ S Q q
    refine ha F0 H0 F H σ S _ fun x F1 H1 k1 r1 => hb F0 H0 F1 H1 σ (S.wk k1) _ fun y F2 H2 k2 r2 => ⟨a, b, r1, r2, ⟨by omega, by omega, by omega, by omega, by omega⟩, fun p hp => ?_⟩
    refine q (.ref p) (L2.upd F2 p (.tup (rgV a b))) _ ((k1.trans k2).trans (Wk.new k2.s _ hp)) ⟨p, rgV a b, rfl, SqT.of upd_same, ?_⟩
    have e : rgV a b = (rangeI a (b - a).toNat).map V.int := by
      unfold rgV rangeI
      rw [List.map_map]
      rfl
    rw [e]
    exact ints_rp _
  · trivial
end
end Mw
set_option maxHeartbeats 1000000
namespace Qw
open PySem PySem.Spec PyProof.Rows L2 Evl
end Qw
namespace Mw
open PySem PySem.Spec PyProof.Rows L2 Qw
open Evl hiding ea_cons
open Pw (Dt Rp RpL Wk R2d R1d RLd RLn Kq KqL none_sub spX2 get_set set_same set_ne)
end Mw
set_option maxHeartbeats 1000000
namespace Mw
open PySem PySem.Spec PyProof.Rows L2 Qw
open Evl hiding ea_cons
open Pw (Dt Rp RpL Wk R2d R1d RLd RLn Kq KqL none_sub spX2 get_set set_same set_ne Wl)
section
variable {P : Program} {w : World} {K : PySem.W.Frag} {W : WX} {eX : En} {α β γ δ σ σ' τ ρ : Type} {env env1 env2 : En} {ta tb te tc : TE} {tt tu : TT} {tA tr : TA} {da : α → Dt} {db : β → Dt} {en : σ → En}
theorem se_ext {i : Nat} {t' : Option Addr} {xs ys : List Dt} (hi : env[i]? = some (.ow t' (.lst xs))) (h : EnO P w K te env (.lst ys) env1) (hi1 : env1[i]? = some (.ow t' (.lst xs)) := by rfl) (hz : xs.length + ys.length ≤ 100000) : Se P w K (tDrop (tBM K "list" rExtend (tVar i) (tCons te tNil))) env (.nx (env1.set i (.ow t' (.lst (xs ++ ys))))) := fun F0 H0 F H σ D S p => by
  obtain ⟨a, ho, h1, g0, g1, g2, g3, vs, rfl, g4⟩ := S.own hi
  refine ⟨_, h1, .inl ⟨rfl, vs, sq_of g3⟩, h.2 F0 H0 F H σ S _ fun b o F1 H1 k S1 n1 n2 hb r => ?_⟩
  obtain ⟨zs, rfl, r⟩ := r
  obtain ⟨b', ho', e1, f0, f1, f2, f3, us, rfl, f4⟩ := S1.own hi1
  rw [h1] at e1
  cases e1
  refine ⟨a, b, us, zs, rfl, rfl, f3, hb, sz_of (by rw [← f4.length, ← r.length]; exact hz), p F1 _ σ k.f (S1.mut hi1 h1 ⟨_, rfl, RpL.append f4 r⟩)⟩
variable {eL : τ → En} {out : ρ → Out} {s2 : TS} {eN : σ' → En}
theorem ow_app {e : α → Dt} {xs ys : List α} : (oL e (xs ++ ys)) = Ow.lst (xs.map e ++ ys.map e) := by show Ow.lst _ = _; rw [List.map_append]
theorem sx_ext {e : α → Dt} {i : Nat} {t' : Option Addr} {xs : List α} {m : R (List α)} {k : List α → R (Ctl σ' τ ρ)} (hi : env[i]? = some (.ow t' (oL e xs))) (h : Xo P w K W eX te env m (oL e)) (hk : ∀ a, Sx P w K W eX eL out s2 (env.set i (.ow t' (oL e (xs ++ a)))) (k a) eN) : Sx P w K W eX eL out (tSeq (tDrop (tBM K "list" rExtend (tVar i) (tCons te tNil))) s2) env (m.bind fun a => R.need (xs.length + a.length ≤ 100000) (k a)) eN := by
  cases m with
  | ok a =>
    show Sx P w K W eX eL out _ env (R.need _ (k a)) eN
    by_cases hz : xs.length + a.length ≤ 100000
    · rw [R.need_pos hz]
      have hk := hk a
      rw [ow_app] at hk
      exact sx_seqE (se_ext hi (eo_p h) hi (by simpa using hz)) hk
    · rw [R.need, if_neg hz]
      trivial
  | ex x =>
    refine se_seqF (se_dropX (x := x.xn K) fun F0 H0 F H σ S Q q => ?_)
    obtain ⟨p0, o0, e0, g0, g1, g2, g3, vs, rfl, g4⟩ := S.own hi
    exact ⟨_, e0, .inl ⟨rfl, vs, sq_of g3⟩, h F0 H0 F H σ S _ q⟩
  | no => trivial
end
section
variable {P : Program} {w : World} {K : PySem.W.Frag} {W : WX} {eX : En} {α β γ δ σ σ' τ ρ : Type} {env env1 env2 : En} {ta tb te tc : TE} {tt tu : TT} {tA tr : TA} {da : α → Dt} {db : β → Dt} {en : σ → En}
def stepsI (a c : Int) (n : Nat) : List Int := (List.range n).map fun i : Nat => a + (i : Int) * c
theorem wl_rngC {F : Hp} {a c : Int} {n : Nat} : Wl K F (Itc a c n) ((stepsI a c n).map eI) := by
  unfold Wl
  rw [List.length_map, show (stepsI a c n).length = n by simp [stepsI]]
  refine walk_rangeC.mono (fun _ _ => trivial) fun i H x H' hi e y F2 e2 e3 => ?_
  obtain ⟨rfl, rfl⟩ := y
  exact ⟨F2, .int (a + (i : Int) * c), Wk.refl e3, by simp [stepsI, hi], rfl⟩
def rngDnR (a b : Int) : R (List Int) := R.need (-100000 ≤ a ∧ a ≤ 100000 ∧ -100000 ≤ b ∧ b ≤ 100000) (.ok (stepsI a (-1) (a - b).toNat))
theorem ip_rngDn {a b : Int} (hA : EpA P w K tA env [.int a, .int b, .int (-1)]) (h : -100000 ≤ a ∧ a ≤ 100000 ∧ -100000 ≤ b ∧ b ≤ 100000) : Ip P w K (iRng3 tA) env ((stepsI a (-1) (a - b).toNat).map eI) := fun F0 H0 F H σ S R k =>
  hA F0 H0 F H σ S _ fun vs F1 H1 k1 r => by
    obtain ⟨v, r', rfl, e1, v2, r2, rfl, e2, v3, r3, rfl, e3, e4⟩ := r
    cases e1; cases e2; cases e3; cases e4
    exact ⟨a, b, -1, _, rfl, RgC.neg (by omega) (by omega) (by omega) (by omega), k _ F1 H1 k1 wl_rngC⟩
theorem xi_rngDn {ma : R α} {a b : α → Int} (h : Xa P w K W eX tA env ma (fun v => [.int (a v), .int (b v), .int (-1)])) : Xi P w K W eX (iRng3 tA) env (ma.bind fun v => rngDnR (a v) (b v)) eI := by
  cases ma with
  | ok v =>
    show Xi P w K W eX _ env (rngDnR _ _) eI
    unfold rngDnR R.need
    split
    · exact ip_rngDn h (by assumption)
    · trivial
  | ex x => exact fun F0 H0 F H σ S Q q => h F0 H0 F H σ S _ q
  | no => trivial
theorem ip_revRg1 {b : Int} (hb : Ep P w K tb env (.int b)) (h : 0 ≤ b ∧ b ≤ 100000) : Ip P w K (iRevR (tRg1 tb)) env ((stepsI (b - 1) (-1) b.toNat).map eI) := fun F0 H0 F H σ S R k =>
  hb F0 H0 F H σ S _ fun v F1 H1 k1 r => by
    cases r
    refine ⟨b, rfl, by omega, by omega, by omega, by omega, ?_⟩
    have e : (0 : Int) + (((b - 0).toNat : Nat) : Int) - 1 = b - 1 := by omega
    rw [e, show (b - 0).toNat = b.toNat by omega]
    exact k _ F1 H1 k1 wl_rngC
theorem ep_tupleO {i : Nat} {t : Option Addr} {e : α → Dt} {xs : List α} (hi : env[i]? = some (.ow t (oL e xs))) : Ep P w K (tCB (Pw.rTupS K) (tCons (tVar i) tNil)) env (eT e xs) := fun F0 H0 F H σ S Q q => by
  obtain ⟨p, o, e1, g0, g1, g2, g3, vs, rfl, g4⟩ := S.own hi
  refine ⟨_, e1, p, vs, rfl, .inl ⟨sq_of g3, fun l hl => ?_⟩⟩
  exact q _ (L2.upd F l (.tup vs)) _ (Wk.new S.sub _ hl) ⟨l, vs, rfl, SqT.of upd_same, g4.mono (Ex.new (none_sub S.sub hl))⟩
def lenDR : Dt → R Int
  | .lst ds => .ok (ds.length : Int)
  | .tup ds => .ok (ds.length : Int)
  | _ => .no
theorem xp_lenD {d : Dt} (h : Ep P w K te env d) : Xp P w K W eX (tCB (rLenS K) (tCons te tNil)) env (lenDR d) eI := by
  cases d with
  | lst ds => exact ep_cb (ap_cons h ap_nil) Pw.rl_len
  | tup ds => exact ep_cb (ap_cons h ap_nil) Pw.rl_lenT
  | _ => trivial
@[simp] theorem ofO_some {a : α} : R.ofO (some a) = .ok a := rfl
theorem as_any : AsOk some eD := fun d a => by
  constructor
  · intro h
    exact Option.some.inj h
  · intro h
    exact congrArg some h
def revRg1R (b : Int) : R (List Int) := R.need (0 ≤ b ∧ b ≤ 100000) (.ok (stepsI (b - 1) (-1) b.toNat))
theorem xi_revRg1 {b : Int} (hb : Ep P w K tb env (eI b)) : Xi P w K W eX (iRevR (tRg1 tb)) env (revRg1R b) eI := by
  unfold revRg1R R.need
  split
  · exact ip_revRg1 hb (by assumption)
  · trivial
end
section
variable {α β σ τ ρ : Type}
/-- by the place -/
theorem holds_ix {f : σ → α → R (Ctl σ σ ρ)} {Q : Ctl σ τ ρ → Prop} (I : σ → Nat → Prop) (xs : List α) (s0 : σ) (h0 : I s0 0) (hs : ∀ s (i : Nat) a, xs[i]? = some a → I s i → Holds (f s a) (onF (fun s' => I s' (i + 1)) Q)) (hd : ∀ s, I s xs.length → Q (.nx s)) : Holds (R.forR xs s0 f) Q := by
  refine holds_forD (fun s pre => I s pre.length) _ s0 h0 (fun s pre a post e h => ?_) hd
  refine (hs s pre.length a (by rw [e]; simp) h).imp fun c hc => ?_
  cases c with
  | nx s => rw [onF_nx] at hc ⊢; rwa [List.length_append]
  | ct s => rw [onF_ct] at hc ⊢; rwa [List.length_append]
  | bk s => exact hc
  | rt b => exact hc
theorem stepsI_len {a c : Int} {n : Nat} : (stepsI a c n).length = n := by simp [stepsI]
theorem stepsI_get {a c : Int} {n i : Nat} (h : i < n) : (stepsI a c n)[i]? = some (a + (i : Int) * c) := by simp [stepsI, h]
theorem get_lt {xs : List α} {i : Nat} {a : α} (h : xs[i]? = some a) : i < xs.length := (List.getElem?_eq_some_iff.mp h).1
end
end Mw
set_option maxHeartbeats 1000000
namespace Zc
open PySem
open PySem.Sem (wp)
/-- a cursor i over the thing at l: S k says that it stands at the place k -/
structure Cur (pr : Program) (wo : World) (i l : Addr) (xs : Array Value) (S : Nat → Heap → Prop) : Prop where
  fr : ∀ {k h h'}, S k h → (∀ c o, c = i ∨ c = l → h.get? c = some o → h'.get? c = some o) → S k h'
  lt : ∀ {k h}, S k h → i < h.objs.size
  ob : ∀ {k h}, S k h → ∃ o, h.get? i = some o ∧ ∀ v, o.data ≠ .cell v
  item : ∀ {A E s k x Q}, S k s.heap → xs[k]? = some x → (∀ h', S (k + 1) h' → Heap.SameBut i s.heap h' → Q x { s with heap := h' }) → wpAny (model pr wo) A (Builtin.SmallTypes.nextOf (.ref i)) Q E s
  stop : ∀ {A E s k} {Q : Value → Shared → Prop}, A.handled = none → S k s.heap → xs[k]? = none → (∀ h' e, Heap.ExtBut i s.heap h' → (∃ o, h'.get? e = some o ∧ o.cls = .type "StopIteration") → E (.ref e) { s with heap := h' }) → wpAny (model pr wo) A (Builtin.SmallTypes.nextOf (.ref i)) Q E s
section
variable {pr : Program} {wo : World} {A : Around} {E : Value → Shared → Prop} {s : Shared} {i l : Addr} {xs : Array Value}
theorem curL (ne : l ≠ i) : Cur pr wo i l xs fun k h => h.IsListIter i l k ∧ h.IsList l xs where
  fr := fun {k h h'} q f => ⟨q.1.at fun o e => f i o (.inl rfl) e, by obtain ⟨o, e, r⟩ := q.2; exact ⟨o, f l o (.inr rfl) e, r⟩⟩
  lt := fun q => by obtain ⟨o, e, _⟩ := q.1; exact Heap.lt_size e
  ob := fun q => by obtain ⟨o, e, _, d⟩ := q.1; exact ⟨o, e, fun v z => by rw [d] at z; cases z⟩
  item := fun {A E s k x Q} q hx hq => wpAny_nextOf_list_item q.1 q.2 hx fun h' a b => hq h' ⟨a, q.2.extBut b.extBut ne⟩ b
  stop := fun {A E s k Q} hh q hx he => wpAny_nextOf_list_end hh q.1 q.2 hx fun h' e a b => he h' e a b
theorem curT (ne : l ≠ i) : Cur pr wo i l xs fun k h => h.IsTupleIter i l k ∧ h.IsTuple l xs where
  fr := fun {k h h'} q f => ⟨q.1.at fun o e => f i o (.inl rfl) e, by obtain ⟨o, e, r⟩ := q.2; exact ⟨o, f l o (.inr rfl) e, r⟩⟩
  lt := fun q => by obtain ⟨o, e, _⟩ := q.1; exact Heap.lt_size e
  ob := fun q => by obtain ⟨o, e, _, d⟩ := q.1; exact ⟨o, e, fun v z => by rw [d] at z; cases z⟩
  item := fun {A E s k x Q} q hx hq => RZ.nextOf_tuple_item q.1 q.2 hx fun h' a b => hq h' ⟨a, q.2.extBut b.extBut ne⟩ b
  stop := fun {A E s k Q} hh q hx he => RZ.nextOf_tuple_end hh q.1 q.2 hx fun h' e a b => he h' e a b
end
section
variable {pr : Program} {wo : World} {A : Around} {E : Value → Shared → Prop} {s : Shared} {p I O c d la lb : Addr} {m n : Nat} {xs ys : Array Value} {va vb old1 old2 : Value} {S1 S2 : Nat → Heap → Prop}
/-- what is about a zip object p that stands ready: its cursors c, d, its pairs I (the cursors), O (what was handed out last) -/
structure Rdy (p I O c d : Addr) (S1 S2 : Nat → Heap → Prop) (m n : Nat) (old1 old2 : Value) (h : Heap) : Prop where
  z : IsZip h p I O .none
  i : IsPair h I (.ref c) (.ref d)
  o : IsPair h O old1 old2
  a : S1 m h
  b : S2 n h
theorem zip_item (C1 : Cur pr wo c la xs S1) (C2 : Cur pr wo d lb ys S2) (D : ZipApart p I O c d la lb) (R : Rdy p I O c d S1 S2 m n old1 old2 s.heap) (ex : xs[m]? = some va) (ey : ys[n]? = some vb) {Q : Value → Shared → Prop}
    (fin : ∀ h', IsZip h' p I O (rawInt s.heap.objs.size) → IsPair h' O va vb → S1 (m + 1) h' → S2 (n + 1) h' → IsPair h' s.heap.objs.size va vb → h'.objs.size = s.heap.objs.size + 1 → (∀ t u, t ≠ p → t ≠ O → t ≠ c → t ≠ d → s.heap.get? t = some u → h'.get? t = some u) → Q (.ref s.heap.objs.size) { s with heap := h' }) :
    wpAny (model pr wo) A (Builtin.«zip.__next__» ⟨[.ref p], []⟩) (fun f s' => ∃ v, f = .done (.ret v) ∧ Q v s') E s := by
  obtain ⟨Rz, Ri, Ro, Ra, Rb⟩ := R
  show wpAny _ _ (field (.ref p) 2 >>= _) _ _ _
  apply wpAny_bind
  apply wpAny_field Rz rfl (x := .bool false) rfl
  show wpAny _ _ (field (.ref p) 3 >>= _) _ _ _
  apply wpAny_bind
  apply wpAny_field Rz rfl (x := .ref I) rfl
  apply wpAny_bind
  apply wpAny_seqItems Ri rfl
  show wpAny _ _ (Builtin.SmallTypes.ownedTupleIsFree (.ref p) >>= _) _ _ _
  apply wpAny_bind; unfold Builtin.SmallTypes.ownedTupleIsFree
  apply wpAny_bind
  apply wpAny_field Rz rfl (x := .none) rfl
  apply wpAny_pure
  simp only [if_true]
  apply wpAny_bind
  apply wpAny_rule
  apply wpAny_bind
  apply wpAny_field Rz rfl (x := .ref O) rfl
  apply wpAny_bind
  refine wpAny_setField_rec Rz (by simp) fun g1 Z1 u1 => ?_
  have Z1 : IsZip g1 p I O .ellipsis := Z1
  apply wpAny_bind; simp only [List.zipIdx_cons, List.zipIdx_nil, List.forIn_cons, List.forIn_nil]
  apply wpAny_bind
  apply wpAny_bind
  apply wpAny_onRaise
  show wpAny _ _ (Builtin.SmallTypes.nextOf (.ref c) >>= _) _ _ _
  apply wpAny_bind
  have A1 : S1 m g1 := C1.fr Ra fun t u q e => u1.extBut t u (by rcases q with rfl | rfl; exact D.i1z; exact D.l1z) e
  refine C1.item (s := { s with heap := g1 }) A1 ex fun g2 A2 u2 => ?_
  apply wpAny_pure
  have u2 : Heap.SameBut c g1 g2 := u2
  have O2 : IsPair g2 O old1 old2 := u2.extBut _ _ D.TOi1 (u1.extBut _ _ D.TOz Ro)
  apply wpAny_bind
  apply wpAny_seqItems O2 rfl
  apply wpAny_bind
  refine wpAny_updateSeq_pair O2 fun g3 O3 u3 => ?_
  have O3 : IsPair g3 O va old2 := O3
  have u3 : Heap.SameBut O g2 g3 := u3
  apply wpAny_bind
  apply wpAny_letGo
  apply wpAny_pure
  apply wpAny_bind
  apply wpAny_bind
  apply wpAny_onRaise
  show wpAny _ _ (Builtin.SmallTypes.nextOf (.ref d) >>= _) _ _ _
  apply wpAny_bind
  have B3 : S2 n g3 := C2.fr Rb fun t u q e => by
    have n1 : t ≠ p := by rcases q with rfl | rfl; exact D.i2z; exact D.l2z
    have n2 : t ≠ c := by rcases q with rfl | rfl; exact D.i12.symm; exact D.l2i1
    have n3 : t ≠ O := by rcases q with rfl | rfl; exact D.TOi2.symm; exact D.l2TO
    exact u3.extBut _ _ n3 (u2.extBut _ _ n2 (u1.extBut _ _ n1 e))
  refine C2.item (s := { s with heap := g3 }) B3 ey fun g4 B4 u4 => ?_
  apply wpAny_pure
  have u4 : Heap.SameBut d g3 g4 := u4
  have O4 : IsPair g4 O va old2 := u4.extBut _ _ D.TOi2 O3
  apply wpAny_bind
  apply wpAny_seqItems O4 rfl
  apply wpAny_bind
  refine wpAny_updateSeq_pair O4 fun g5 O5 u5 => ?_
  have O5 : IsPair g5 O va vb := O5
  have u5 : Heap.SameBut O g4 g5 := u5
  apply wpAny_bind
  apply wpAny_letGo
  apply wpAny_pure
  apply wpAny_pure
  apply wpAny_bind
  apply wpAny_seqItems O5 rfl
  apply wpAny_bind
  refine wpAny_newTuple ?_
  have sz : g5.objs.size = s.heap.objs.size := by rw [u5.1, u4.1, u3.1, u2.1, u1.1]
  have all5 : ∀ t u, t ≠ p → t ≠ O → t ≠ c → t ≠ d → s.heap.get? t = some u → g5.get? t = some u := fun t u n1 n2 n3 n4 e => u5.extBut _ _ n2 (u4.extBut _ _ n4 (u3.extBut _ _ n2 (u2.extBut _ _ n3 (u1.extBut _ _ n1 e))))
  have Z5 : IsZip g5 p I O .ellipsis := u5.extBut _ _ D.TOz.symm (u4.extBut _ _ D.i2z.symm (u3.extBut _ _ D.TOz.symm (u2.extBut _ _ D.i1z.symm Z1)))
  have A5 : S1 (m + 1) g5 := C1.fr A2 fun t u q e => by
    have n3 : t ≠ O := by rcases q with rfl | rfl; exact D.TOi1.symm; exact D.l1TO
    have n2 : t ≠ d := by rcases q with rfl | rfl; exact D.i12; exact D.l1i2
    exact u5.extBut _ _ n3 (u4.extBut _ _ n2 (u3.extBut _ _ n3 e))
  have B5 : S2 (n + 1) g5 := C2.fr B4 fun t u q e => u5.extBut _ _ (by rcases q with rfl | rfl; exact D.TOi2.symm; exact D.l2TO) e
  have pl : p < g5.objs.size := Heap.lt_size Z5
  show wpAny _ _ (Builtin.SmallTypes.ownedTupleHandOut (.ref p) (.ref g5.objs.size) >>= _) _ _ _
  apply wpAny_bind; unfold Builtin.SmallTypes.ownedTupleHandOut
  have Z6 : IsZip (g5.push { cls := .type "tuple", data := .seq #[va, vb] }) p I O .ellipsis := Heap.get?_push_of_some _ Z5
  apply wpAny_bind
  refine wpAny_setField_rec Z6 (by simp) fun g7 Z7 u7 => ?_
  have Z7 : IsZip g7 p I O (rawInt g5.objs.size) := Z7
  refine wpAny_setField_rec Z7 (by simp) fun g8 Z8 u8 => ?_
  have Z8 : IsZip g8 p I O (rawInt g5.objs.size) := Z8
  have go : ∀ t u, t ≠ p → g5.get? t = some u → g8.get? t = some u := fun t u n1 e => u8.extBut _ _ n1 (u7.extBut _ _ n1 (Heap.get?_push_of_some _ e))
  have T8 : IsPair g8 g5.objs.size va vb := u8.extBut _ _ (Nat.ne_of_gt pl) (u7.extBut _ _ (Nat.ne_of_gt pl) (Heap.get?_push_size _ rfl))
  have s8 : g8.objs.size = g5.objs.size + 1 := by rw [u8.1, u7.1, Heap.size_push]
  rw [sz] at Z8 T8 s8
  refine wpAny_pure ⟨_, rfl, show Q (.ref g5.objs.size) _ from ?_⟩
  rw [sz]
  refine fin g8 Z8 (go _ _ D.TOz O5) (C1.fr A5 fun t u q e => go t u (by rcases q with rfl | rfl; exact D.i1z; exact D.l1z) e) (C2.fr B5 fun t u q e => go t u (by rcases q with rfl | rfl; exact D.i2z; exact D.l2z) e) T8 s8 fun t u n1 n2 n3 n4 e => go t u n1 (all5 t u n1 n2 n3 n4 e)
theorem zip_stop (hh : A.handled = none) (C1 : Cur pr wo c la xs S1) (C2 : Cur pr wo d lb ys S2) (D : ZipApart p I O c d la lb) (R : Rdy p I O c d S1 S2 m n old1 old2 s.heap) (hend : xs[m]? = none ∨ ys[n]? = none) {Q : Fin → Shared → Prop}
    (fin : ∀ h' e, (∀ t u, t ≠ p → t ≠ O → t ≠ c → t ≠ d → s.heap.get? t = some u → h'.get? t = some u) → (∃ o, h'.get? e = some o ∧ o.cls = .type "StopIteration") → E (.ref e) { s with heap := h' }) :
    wpAny (model pr wo) A (Builtin.«zip.__next__» ⟨[.ref p], []⟩) Q E s := by
  obtain ⟨Rz, Ri, Ro, Ra, Rb⟩ := R
  show wpAny _ _ (field (.ref p) 2 >>= _) _ _ _
  apply wpAny_bind
  apply wpAny_field Rz rfl (x := .bool false) rfl
  show wpAny _ _ (field (.ref p) 3 >>= _) _ _ _
  apply wpAny_bind
  apply wpAny_field Rz rfl (x := .ref I) rfl
  apply wpAny_bind
  apply wpAny_seqItems Ri rfl
  show wpAny _ _ (Builtin.SmallTypes.ownedTupleIsFree (.ref p) >>= _) _ _ _
  apply wpAny_bind; unfold Builtin.SmallTypes.ownedTupleIsFree
  apply wpAny_bind
  apply wpAny_field Rz rfl (x := .none) rfl
  apply wpAny_pure
  simp only [if_true]
  apply wpAny_bind
  apply wpAny_rule
  apply wpAny_bind
  apply wpAny_field Rz rfl (x := .ref O) rfl
  apply wpAny_bind
  refine wpAny_setField_rec Rz (by simp) fun g1 Z1 u1 => ?_
  have Z1 : IsZip g1 p I O .ellipsis := Z1
  apply wpAny_bind; simp only [List.zipIdx_cons, List.zipIdx_nil, List.forIn_cons, List.forIn_nil]
  apply wpAny_bind
  apply wpAny_bind
  apply wpAny_onRaise
  show wpAny _ _ (Builtin.SmallTypes.nextOf (.ref c) >>= _) _ _ _
  have A1 : S1 m g1 := C1.fr Ra fun t u q e => u1.extBut t u (by rcases q with rfl | rfl; exact D.i1z; exact D.l1z) e
  apply wpAny_bind
  cases ex : xs[m]? with
  | none =>
    refine C1.stop (s := { s with heap := g1 }) hh A1 ex fun g2 e u2 he => ?_
    obtain ⟨oe, q1, q2⟩ := he
    have Z2 : IsZip g2 p I O .ellipsis := u2 _ _ D.i1z.symm Z1
    have ne : e ≠ p := fun z => by
      subst z
      rw [Z2] at q1
      cases q1
      simp at q2
    refine wpAny_setField_rec Z2 (by simp) fun g3 _ u3 => ?_
    exact fin g3 e (fun t u n1 _ n3 _ x => u3.extBut _ _ n1 (u2 _ _ n3 (u1.extBut _ _ n1 x))) ⟨oe, u3.extBut _ _ ne q1, q2⟩
  | some va =>
    have ey : ys[n]? = none := hend.resolve_left fun z => by rw [ex] at z; cases z
    refine C1.item (s := { s with heap := g1 }) A1 ex fun g2 A2 u2 => ?_
    apply wpAny_pure
    have u2 : Heap.SameBut c g1 g2 := u2
    have O2 : IsPair g2 O old1 old2 := u2.extBut _ _ D.TOi1 (u1.extBut _ _ D.TOz Ro)
    apply wpAny_bind
    apply wpAny_seqItems O2 rfl
    apply wpAny_bind
    refine wpAny_updateSeq_pair O2 fun g3 O3 u3 => ?_
    have u3 : Heap.SameBut O g2 g3 := u3
    apply wpAny_bind
    apply wpAny_letGo
    apply wpAny_pure
    apply wpAny_bind
    apply wpAny_bind
    apply wpAny_onRaise
    show wpAny _ _ (Builtin.SmallTypes.nextOf (.ref d) >>= _) _ _ _
    apply wpAny_bind
    have B3 : S2 n g3 := C2.fr Rb fun t u q e => by
      have n1 : t ≠ p := by rcases q with rfl | rfl; exact D.i2z; exact D.l2z
      have n2 : t ≠ c := by rcases q with rfl | rfl; exact D.i12.symm; exact D.l2i1
      have n3 : t ≠ O := by rcases q with rfl | rfl; exact D.TOi2.symm; exact D.l2TO
      exact u3.extBut _ _ n3 (u2.extBut _ _ n2 (u1.extBut _ _ n1 e))
    refine C2.stop (s := { s with heap := g3 }) hh B3 ey fun g4 e u4 he => ?_
    obtain ⟨oe, q1, q2⟩ := he
    have Z4 : IsZip g4 p I O .ellipsis := u4 _ _ D.i2z.symm (u3.extBut _ _ D.TOz.symm (u2.extBut _ _ D.i1z.symm Z1))
    have ne : e ≠ p := fun z => by
      subst z
      rw [Z4] at q1
      cases q1
      simp at q2
    refine wpAny_setField_rec Z4 (by simp) fun g5 _ u5 => ?_
    exact fin g5 e (fun t u n1 n2 n3 n4 x => u5.extBut _ _ n1 (u4 _ _ n4 (u3.extBut _ _ n2 (u2.extBut _ _ n3 (u1.extBut _ _ n1 x))))) ⟨oe, u5.extBut _ _ ne q1, q2⟩
theorem next_item (C1 : Cur pr wo c la xs S1) (C2 : Cur pr wo d lb ys S2) (D : ZipApart p I O c d la lb) (R : Rdy p I O c d S1 S2 m n old1 old2 s.heap) (ex : xs[m]? = some va) (ey : ys[n]? = some vb) {Q : Option Value → Shared → Prop}
    (fin : ∀ h', IsZip h' p I O (rawInt s.heap.objs.size) → IsPair h' O va vb → S1 (m + 1) h' → S2 (n + 1) h' → IsPair h' s.heap.objs.size va vb → h'.objs.size = s.heap.objs.size + 1 → (∀ t u, t ≠ p → t ≠ O → t ≠ c → t ≠ d → s.heap.get? t = some u → h'.get? t = some u) → Q (some (.ref s.heap.objs.size)) { s with heap := h' }) :
    wpAny (model pr wo) A (pyNext (.ref p)) Q E s := by
  have ty : s.TypeIs (.ref p) "zip" := ⟨_, R.z, rfl⟩
  unfold pyNext
  refine wpAny_bind (wpAny_attempt (wpAny_callSpecial?_slot (name := Str.ofString "__next__") ty F.slot_zip_next (wpAny_call_entry F.slot_zip_next ty F.entry_zip_next ?_ (F.args_zip_next_1 _))))
  exact zip_item C1 C2 D R ex ey fun h' a1 a2 a3 a4 a5 a6 a7 => wpAny_pure (fin h' a1 a2 a3 a4 a5 a6 a7)
theorem next_stop (hh : A.handled = none) (C1 : Cur pr wo c la xs S1) (C2 : Cur pr wo d lb ys S2) (D : ZipApart p I O c d la lb) (R : Rdy p I O c d S1 S2 m n old1 old2 s.heap) (hend : xs[m]? = none ∨ ys[n]? = none) {Q : Option Value → Shared → Prop}
    (fin : ∀ h', (∀ t u, t ≠ p → t ≠ O → t ≠ c → t ≠ d → s.heap.get? t = some u → h'.get? t = some u) → Q none { s with heap := h' }) :
    wpAny (model pr wo) A (pyNext (.ref p)) Q E s := by
  have ty : s.TypeIs (.ref p) "zip" := ⟨_, R.z, rfl⟩
  unfold pyNext
  refine wpAny_bind (wpAny_attempt (wpAny_callSpecial?_slot (name := Str.ofString "__next__") ty F.slot_zip_next (wpAny_call_entry F.slot_zip_next ty F.entry_zip_next ?_ (F.args_zip_next_1 _))))
  refine zip_stop (A := A.in1) (show A.in1.handled = none from hh) C1 C2 D R hend fun h' e hk he => ?_
  obtain ⟨o, e1, e2⟩ := he
  exact wpAny_bind (wpAny_isInstance (T := "StopIteration") (b := true) ⟨o, e1, e2⟩ isSubtype_stop (wpAny_pure (fin _ hk)))
end
abbrev n1 (h : Heap) (l : Addr) : Heap := h.push { cls := .type "list_iterator", data := .fields #[.ref l, .int 0 0] }
abbrev n2 (h : Heap) (l t : Addr) : Heap := (n1 h l).push { cls := .type "tuple_iterator", data := .fields #[.ref t, .int 0 0] }
abbrev n3 (h : Heap) (l t : Addr) : Heap := (n2 h l t).push { cls := .type "tuple", data := .seq #[.ref h.objs.size, .ref (n1 h l).objs.size] }
abbrev n4 (h : Heap) (l t : Addr) : Heap := (n3 h l t).push { cls := .type "tuple", data := .seq #[.none, .none] }
abbrev n5 (h : Heap) (l t : Addr) : Heap := (n4 h l t).push { cls := .type "zip", data := .fields #[.none, .bool false, .bool false, .ref (n2 h l t).objs.size, .ref (n3 h l t).objs.size] }
theorem meets_new (l t : Addr) (xs ys : Array Value) : Meets (Builtin.«zip.__new__» ⟨[.type "zip", .ref l, .ref t], []⟩) (fun _ R s => s.heap.IsList l xs ∧ s.heap.IsTuple t ys ∧ R (.ok (.ret (.ref (n4 s.heap l t).objs.size))) { s with heap := n5 s.heap l t }) :=
  .of_wp fun pr wo A R s q => by
    obtain ⟨hp, g, d, tk, os⟩ := s; obtain ⟨q1, q2, q⟩ := q
    have isz := sub_zip
    have L1 : Heap.IsList (Shared.heap ⟨hp, g, d, tk, os⟩) l xs := q1
    have T2 : Heap.IsTuple (Shared.heap ⟨n1 hp l, g, d, tk, os⟩) t ys := Heap.IsTuple.push q2 _
    wp_walk using wpAny_pyIter_list L1, wpAny_pyIter_tuple T2
    exact ⟨_, rfl, q⟩
theorem call_new {pr : Program} {wo : World} {A : Around} {E : Value → Shared → Prop} {s : Shared} {l t : Addr} {xs ys : Array Value} {Q : Value → Shared → Prop} (q1 : s.heap.IsList l xs) (q2 : s.heap.IsTuple t ys)
    (q : ∀ h', Rdy (s.heap.objs.size + 4) (s.heap.objs.size + 2) (s.heap.objs.size + 3) s.heap.objs.size (s.heap.objs.size + 1) (fun k h => h.IsListIter s.heap.objs.size l k ∧ h.IsList l xs) (fun k h => h.IsTupleIter (s.heap.objs.size + 1) t k ∧ h.IsTuple t ys) 0 0 .none .none h' →
      (∀ a o, s.heap.get? a = some o → h'.get? a = some o) → Q (.ref (s.heap.objs.size + 4)) { s with heap := h' }) : wpAny (model pr wo) A (call (.type "zip") [.ref l, .ref t]) Q E s := by
  refine callType_new F.called_zip (by decide) (F.typeCall_zip_2 _ _) (F.newCall_zip_2 _ _) (fun ob => F.args_object_init_3 ob _ _) F.entry_zip_new (meets_new l t xs ys) ⟨q1, q2, ?_⟩
  have e1 : (n1 s.heap l).objs.size = s.heap.objs.size + 1 := Heap.size_push ..
  have e2 : (n2 s.heap l t).objs.size = s.heap.objs.size + 2 := by rw [Heap.size_push, e1]
  have e3 : (n3 s.heap l t).objs.size = s.heap.objs.size + 3 := by rw [Heap.size_push, e2]
  have e4 : (n4 s.heap l t).objs.size = s.heap.objs.size + 4 := by rw [Heap.size_push, e3]
  have up : ∀ {h : Heap} {o u : Obj} {a : Addr}, h.get? a = some u → (h.push o).get? a = some u := fun e => Heap.get?_push_of_some _ e
  have k5 : (n5 s.heap l t).get? (n4 s.heap l t).objs.size = some _ := Heap.get?_push_size _ rfl
  have k4 : (n5 s.heap l t).get? (n3 s.heap l t).objs.size = some _ := up (Heap.get?_push_size _ rfl)
  have k3 : (n5 s.heap l t).get? (n2 s.heap l t).objs.size = some _ := up (up (Heap.get?_push_size _ rfl))
  have k2 : (n5 s.heap l t).get? (n1 s.heap l).objs.size = some _ := up (up (up (Heap.get?_push_size _ rfl)))
  have k1 : (n5 s.heap l t).get? s.heap.objs.size = some _ := up (up (up (up (Heap.get?_push_size _ rfl))))
  have all : ∀ a o, s.heap.get? a = some o → (n5 s.heap l t).get? a = some o := fun a o e => up (up (up (up (up e))))
  show _ ∧ _
  rw [e2, e3, e4] at k5
  rw [e1, e2] at k3
  rw [e3] at k4
  rw [e1] at k2
  rw [e4]
  refine ⟨⟨_, k5, rfl⟩, q _ ⟨k5, k3, k4, ⟨⟨_, k1, rfl, rfl⟩, ?_⟩, ⟨_, k2, rfl, rfl⟩, ?_⟩ all⟩
  · obtain ⟨o, e, r⟩ := q1
    exact ⟨o, all _ _ e, r⟩
  · obtain ⟨o, e, r⟩ := q2
    exact ⟨o, all _ _ e, r⟩
open PySem.Spec PyProof.Rows L2
/-- the pairs of a list and a tuple -/
def ItzM (K : PySem.W.Frag) (a b : Addr) : It where
  go := fun i H => ∃ (xs ys : List V) (x y : V), SqL K H a xs ∧ SqT K H b ys ∧ xs[i]? = some x ∧ ys[i]? = some y
  yld := fun i H v H' => ∃ T x y, v = .ref T ∧ H T = none ∧ H' = upd H T (.tup [x, y]) ∧ (∀ xs, SqL K H a xs → xs[i]? = some x) ∧ ∀ ys, SqT K H b ys → ys[i]? = some y
  stop := fun i H => ∃ xs ys : List V, SqL K H a xs ∧ SqT K H b ys ∧ (xs.length ≤ i ∨ ys.length ≤ i)
def Stn (z I O c d a b : Addr) (i : Nat) (h : Heap) : Prop := IsZip h z I O .none ∧ IsPair h I (.ref c) (.ref d) ∧ (∃ u v, IsPair h O u v) ∧ h.IsListIter c a i ∧ h.IsTupleIter d b i
theorem five {z I O c d t : Addr} (h : t ∈ [z, I, O, c, d]) : t = z ∨ t = I ∨ t = O ∨ t = c ∨ t = d := by simpa using h
theorem turn_zipM {P : Program} {w : World} {K : PySem.W.Frag} {es : List Expr} {kk : Nat} {tp : Pos} {a b z I O c d : Addr} (D : ZipApart z I O c d a b) : Turn P w K (.Tuple es kk tp) (ItzM K a b) [z, I, O, c, d] z (Stn z I O c d a b) where
  mem := by simp
  obj := by
    rintro i h ⟨q1, q2, ⟨u, v, q3⟩, ⟨o1, e1, _, d1⟩, o2, e2, _, d2⟩ t ht
    rcases five ht with rfl | rfl | rfl | rfl | rfl
    · exact ⟨_, q1, fun v q => nomatch q⟩
    · exact ⟨_, q2, fun v q => nomatch q⟩
    · exact ⟨_, q3, fun v q => nomatch q⟩
    · exact ⟨o1, e1, fun v q => by rw [d1] at q; cases q⟩
    · exact ⟨o2, e2, fun v q => by rw [d2] at q; cases q⟩
  keep := by
    rintro i h h' ⟨q1, q2, ⟨u, v, q3⟩, q4, q5⟩ k
    exact ⟨k z (by simp) _ q1, k I (by simp) _ q2, ⟨u, v, k O (by simp) _ q3⟩, q4.at fun o e => k c (by simp) o e, q5.at fun o e => k d (by simp) o e⟩
  item := by
    rintro X rfl rfl rfl hc i pins s σ H E Iv hf ⟨q1, q2, ⟨u0, v0, q3⟩, q4, q5⟩ ⟨xs, ys, x, y, sx, sy, hx, hy⟩
    obtain ⟨ix, rx, px, _⟩ := Iv.list sx
    obtain ⟨iy, ry, py, _⟩ := Iv.tuple sy
    obtain ⟨ux, hux, rux⟩ := rx.get hx
    obtain ⟨uy, huy, ruy⟩ := ry.get hy
    have zl : z < s.heap.objs.size := Heap.lt_size q1
    refine next_item (curL D.l1i1) (curT D.l2i2) D ⟨q1, q2, q3, ⟨q4, px.isList⟩, ⟨q5, py⟩⟩ (va := ux) (vb := uy) (by simpa using hux) (by simpa using huy) fun h' a1 a2 a3 a4 a5 a6 a7 => ?_
    refine ⟨_, rfl, wpAny_letOwnedTupleGo_zip (s := { s with heap := h' }) a1 fun h'' z2 sb => ?_⟩
    have T2 : h''.get? s.heap.objs.size = some { cls := .type "tuple", data := .seq #[ux, uy] } := (sb.2 _ (Nat.ne_of_gt zl)).trans a5
    have fresh : ObjOk X.prog X.w (upd H s.heap.objs.size (.tup [x, y])) h'' s.heap.objs.size (.tup [x, y]) := ⟨by show 2 ≤ sizeLine; decide, [ux, uy], .cons rux (.cons ruy .nil), ⟨_, T2, rfl, _, rfl⟩⟩
    have Iv2 : Inv X pins σ (upd H s.heap.objs.size (.tup [x, y])) { s with heap := h'' } := Iv.turnedNew (t' := s.toks) (ch := [z, I, O, c, d]) (fun t o ht e => by
      have ne : t ≠ z ∧ t ≠ O ∧ t ≠ c ∧ t ≠ d := ⟨fun q => ht (by simp [q]), fun q => ht (by simp [q]), fun q => ht (by simp [q]), fun q => ht (by simp [q])⟩
      exact (sb.2 t ne.1).trans (a7 t o ne.1 ne.2.1 ne.2.2.1 ne.2.2.2 e)) hf (Nat.le_refl _) fresh
    refine ⟨.ref s.heap.objs.size, _, Iv2, rfl, ⟨_, x, y, rfl, Iv.hok.fresh (Nat.le_refl _), rfl, fun l hl => by rw [Iv.list_inj hl sx]; exact hx, fun l hl => by rw [Iv.tuple_inj hl sy]; exact hy⟩, ⟨z2, ?_, ⟨ux, uy, ?_⟩, ?_, ?_⟩, fun t ht => ?_⟩
    · exact (sb.2 _ D.TIz).trans (a7 _ _ D.TIz D.TITO D.TIi1 D.TIi2 q2)
    · exact (sb.2 _ D.TOz).trans a2
    · exact a3.1.at fun o e => (sb.2 _ D.i1z).trans e
    · exact a4.1.at fun o e => (sb.2 _ D.i2z).trans e
    · have lt : t < s.heap.objs.size := by
        rcases five ht with rfl | rfl | rfl | rfl | rfl
        · exact zl
        · exact Heap.lt_size q2
        · exact Heap.lt_size q3
        · obtain ⟨_, e, _⟩ := q4
          exact Heap.lt_size e
        · obtain ⟨_, e, _⟩ := q5
          exact Heap.lt_size e
      rw [upd_ne (Nat.ne_of_lt lt)]
      exact (hf t ht).1
  done := by
    rintro X rfl rfl rfl hc i pins s σ H E Iv hf ⟨q1, q2, ⟨u0, v0, q3⟩, q4, q5⟩ ⟨xs, ys, sx, sy, he⟩
    obtain ⟨ix, rx, px, _⟩ := Iv.list sx
    obtain ⟨iy, ry, py, _⟩ := Iv.tuple sy
    have l1 := rx.length
    have l2 := ry.length
    refine next_stop (Iv.ok.hd hc) (curL D.l1i1) (curT D.l2i2) D ⟨q1, q2, q3, ⟨q4, px.isList⟩, ⟨q5, py⟩⟩ (he.imp (fun q => by simp; omega) fun q => by simp; omega) fun h' k => ⟨rfl, ?_⟩
    exact Iv.turnedL (t' := s.toks) (ch := [z, I, O, c, d]) (fun t o ht e => k t o (fun q => ht (by simp [q])) (fun q => ht (by simp [q])) (fun q => ht (by simp [q])) (fun q => ht (by simp [q])) e) hf
  self := fun A i s Q E q h => wpAny_pyIter_zip q.1 h
def iZipM (K : PySem.W.Frag) (ta : TA) : TI := fun σ H R => ta σ H fun vs H1 => ∃ a b xs ys, vs = [.ref a, .ref b] ∧ SqL K H1 a xs ∧ SqT K H1 b ys ∧ R (ItzM K a b) H1
theorem pi_zipM {X : Cx} {e e2 : Expr} {ta : TA} {p pos tp : Pos} {es : List Expr} {kk : Nat} (hg : Gl X "zip") (hm : X.mg "zip" = none) (ha : PA X [e, e2] ta)
    (na : starEach [e, e2] X.env = (false, eval e X.env) :: starEach [e2] X.env := by rfl) (nb : (backTo pos (starEach [e2] X.env)).any (·.1) = false := by rfl) : PI X (.Tuple es kk tp) (.Call (.Name "zip" p) [e, e2] [] pos) (iZipM X.K ta) := by
  refine ⟨fun pins s σ H R I h => Call_ (ld_blt I hg hm PyProof.Rows.boot_zip (PyProof.Rows.callWith_type1 (thn (ha.run pos pins s σ H _ I h) fun us s1 ⟨vs, H1, I1, r1, a, b, xs, ys, ev, sx, sy, q⟩ => ?_) na nb))⟩
  subst ev
  obtain ⟨_, _, rfl, ra, r1⟩ : ∃ u us', us = u :: us' ∧ RelV (.ref a) u ∧ Vals [.ref b] us' := by cases r1 with | cons r rr => exact ⟨_, _, rfl, r, rr⟩
  obtain ⟨_, rfl, rb⟩ := r1.one
  cases ra
  cases rb
  obtain ⟨ix, rx, px, _⟩ := I1.list sx
  obtain ⟨iy, ry, py, _⟩ := I1.tuple sy
  obtain ⟨o2, ho2, _⟩ := id py
  refine call_new px.isList (show s1.heap.IsTuple b iy.toArray from py) fun h' R k => wpAny_pyIter_zip R.z ?_
  have I2 : Inv X pins σ H1 { s1 with heap := h' } := I1.kept (t' := s1.toks) k
  refine ⟨s1.heap.objs.size + 4, [s1.heap.objs.size + 4, s1.heap.objs.size + 2, s1.heap.objs.size + 3, s1.heap.objs.size, s1.heap.objs.size + 1], _, _, H1, rfl, I2, turn_zipM (PySem.W.ktu_apart s1.heap.objs.size a b px.lt (Heap.lt_size ho2)), ⟨R.z, R.i, ⟨_, _, R.o⟩, R.a.1, R.b.1⟩, fun t ht => ?_, q⟩
  have le : s1.heap.objs.size ≤ t := by
    rcases five ht with rfl | rfl | rfl | rfl | rfl
    · exact Nat.le_add_right _ _
    · exact Nat.le_add_right _ _
    · exact Nat.le_add_right _ _
    · exact Nat.le_refl _
    · exact Nat.le_add_right _ _
  exact I1.fpOk le (I1.hok.fresh le)
theorem walk_zipM {K : PySem.W.Frag} {a b : Addr} {xs ys : List V} {n : Nat} (hn : n = min xs.length ys.length) : Walk (ItzM K a b) n (fun H => SqL K H a xs ∧ SqT K H b ys) (YPair (fun i => xs[i]?) (fun i => ys[i]?)) := by
  subst hn
  refine ⟨fun i _ hi q => ⟨xs, ys, xs[i]'(by omega), ys[i]'(by omega), q.1, q.2, by simp, by simp⟩, fun _ q => ⟨xs, ys, q.1, q.2, by omega⟩, fun i H v H' _ q y => ?_⟩
  obtain ⟨T, x, z, e1, e2, e3, e4, e5⟩ := y
  exact ⟨T, x, z, e1, e2, e3, e4 xs q.1, e5 ys q.2⟩
end Zc
namespace Mw
open PySem PySem.Spec PyProof.Rows L2 Qw
open Evl hiding ea_cons
open Pw (Dt Rp RpL Wk)
section
variable {P : Program} {w : World} {K : PySem.W.Frag} {W : WX} {eX : En} {α β : Type} {env : En} {ta tb : TE}
theorem xi_zipM {e1 : α → Dt} {e2 : β → Dt} {m : R (List α)} {n : R (List β)} (h : Xp P w K W eX ta env m (eL e1)) (h2 : Xp P w K W eX tb env n (eT e2)) : Xi P w K W eX (Zc.iZipM K (tCons ta (tCons tb tNil))) env (m.bind fun xs => n.bind fun ys => .ok (xs.zip ys)) (eP2 e1 e2) := by
  cases m with
  | ok xs =>
    cases n with
    | ok ys =>
      refine fun F0 H0 F H σ S R k => h F0 H0 F H σ S _ fun v F1 H1 k1 r => h2 F0 H0 F1 H1 σ (S.wk k1) _ fun v2 F2 H2 k2 r2 => ?_
      obtain ⟨a, us, rfl, g1, g2⟩ := r
      obtain ⟨b, vs, rfl, g3, g4⟩ := r2
      have q1 := g2.mono k2.f
      have l1 := g2.length
      have l2 := g4.length
      rw [List.length_map] at l1 l2
      refine ⟨a, b, us, vs, rfl, ex_l (k1.s.trans k2.h) g1, ex_t k2.s g3, k _ F2 H2 (k1.trans k2) (wl_pair (n := min us.length vs.length) (by rw [List.length_map, List.length_zip, l1, l2]) (Zc.walk_zipM rfl) (fun H e => ⟨ex_l (k2.f.trans e) g1, ex_t e g3⟩) fun i x y hi hx hy => zip_at q1 g4 i x y hx hy)⟩
    | ex x => exact fun F0 H0 F H σ S Q q => h F0 H0 F H σ S _ fun v F1 H1 k _ => h2 F0 H0 F1 H1 σ (S.wk k) _ fun od F2 H2 e => q od F2 H2 (k.f.trans e)
    | no => trivial
  | ex x => exact fun F0 H0 F H σ S Q q => h F0 H0 F H σ S _ q
  | no => trivial
end
end Mw
set_option maxHeartbeats 1000000
namespace Mw
open PySem PySem.Spec PyProof.Rows L2 Qw
open Evl hiding ea_cons
open Pw (Dt Rp RpL Wk R2d R1d RLd RLn Kq KqL none_sub spX2 get_set set_same set_ne Wl)
section
variable {α β : Type}
def kk (e : α → Dt) (kvs : List (Str × α)) : KD := kvs.map fun p => ((.inr p.1 : Key), e p.2)
abbrev eK (e : α → Dt) : List (Str × α) → Dt := fun kvs => dk (kk e kvs)
abbrev oK (e : α → Dt) : List (Str × α) → Ow := fun kvs => Ow.dk (kk e kvs)
def getV (kvs : List (Str × α)) (x : Str) : Option α := (kvs.find? fun p => decide (p.1 = x)).map (·.2)
def putV (kvs : List (Str × α)) (x : Str) (a : α) : List (Str × α) := if (kvs.any fun p => decide (p.1 = x)) = true then kvs.map (fun p => if p.1 = x then (p.1, a) else p) else kvs ++ [(x, a)]
def getR (kvs : List (Str × α)) (x : Str) : R α := R.ofO (getV kvs x)
theorem inr_dec (a b : Str) : decide ((Sum.inr a : Key) = Sum.inr b) = decide (a = b) := by
  by_cases h : a = b
  · rw [decide_eq_true h, decide_eq_true (by rw [h])]
  · rw [decide_eq_false h, decide_eq_false fun z => h (Sum.inr.inj z)]
theorem valD_kk {e : α → Dt} {x : Str} : ∀ {kvs : List (Str × α)}, valD (kk e kvs) (.inr x) = (getV kvs x).map e
  | [] => rfl
  | p :: kvs => by
    have ih := valD_kk (e := e) (x := x) (kvs := kvs)
    unfold valD getV at *
    rw [kk, List.map_cons, List.find?_cons, List.find?_cons]
    rw [show decide (((Sum.inr p.1 : Key), e p.2).1 = Sum.inr x) = decide (p.1 = x) from inr_dec _ _]
    cases decide (p.1 = x)
    · exact ih
    · rfl
theorem any_kk {e : α → Dt} {x : Str} {kvs : List (Str × α)} : ((kk e kvs).any fun kv => decide (kv.1 = Sum.inr x)) = kvs.any fun p => decide (p.1 = x) := by
  unfold kk
  rw [List.any_map]
  congr 1
  funext p
  exact inr_dec _ _
theorem putD_kk {e : α → Dt} {x : Str} {a : α} {kvs : List (Str × α)} : putD (kk e kvs) (.inr x) (e a) = kk e (putV kvs x a) := by
  unfold putD putV
  rw [any_kk]
  split
  · unfold kk
    rw [List.map_map, List.map_map]
    apply List.map_congr_left
    intro p _
    show (if (Sum.inr p.1 : Key) = Sum.inr x then ((Sum.inr p.1 : Key), e a) else ((Sum.inr p.1 : Key), e p.2)) = _
    by_cases h : p.1 = x
    · rw [if_pos (by rw [h])]
      show _ = ((Sum.inr (if p.1 = x then (p.1, a) else p).1 : Key), e (if p.1 = x then (p.1, a) else p).2)
      rw [if_pos h]
    · rw [if_neg fun z => h (Sum.inr.inj z)]
      show _ = ((Sum.inr (if p.1 = x then (p.1, a) else p).1 : Key), e (if p.1 = x then (p.1, a) else p).2)
      rw [if_neg h]
  · unfold kk
    rw [List.map_append]
    rfl
theorem kk_len {e : α → Dt} {kvs : List (Str × α)} : (kk e kvs).length = kvs.length := by simp [kk]
theorem getV_put {kvs : List (Str × α)} {x y : Str} {a : α} : getV (putV kvs x a) y = if x = y then some a else getV kvs y := by
  unfold putV
  split
  · rename_i h
    induction kvs with
    | nil => cases h
    | cons p kvs ih =>
      unfold getV at *
      rw [List.map_cons, List.find?_cons, List.find?_cons]
      by_cases hp : p.1 = x
      · rw [if_pos hp]
        by_cases hy : x = y
        · rw [decide_eq_true (show ((p.1, a) : Str × α).1 = y by rw [← hy]; exact hp), if_pos hy]
          rfl
        · rw [decide_eq_false (show ¬ ((p.1, a) : Str × α).1 = y from fun z => hy (hp.symm.trans z)), if_neg hy]
          simp only
          by_cases hk : (kvs.any fun p => decide (p.1 = x)) = true
          · rw [ih hk, if_neg hy]
          · have : kvs.map (fun p => if p.1 = x then (p.1, a) else p) = kvs := by
              conv => rhs; rw [← List.map_id kvs]
              apply List.map_congr_left
              intro q hq
              rw [if_neg fun z => hk (List.any_eq_true.mpr ⟨q, hq, decide_eq_true z⟩)]
              rfl
            rw [this]
      · rw [if_neg hp]
        have h' : (kvs.any fun p => decide (p.1 = x)) = true := by
          rw [List.any_cons, decide_eq_false hp, Bool.false_or] at h
          exact h
        by_cases hy : p.1 = y
        · rw [decide_eq_true hy, if_neg fun z => hp (hy.trans z.symm)]
        · rw [decide_eq_false hy]
          exact ih h'
  · rename_i h
    unfold getV
    rw [List.find?_append]
    by_cases hy : x = y
    · rw [if_pos hy]
      have : kvs.find? (fun p => decide (p.1 = y)) = none := List.find?_eq_none.mpr fun p hp z => h (List.any_eq_true.mpr ⟨p, hp, decide_eq_true ((of_decide_eq_true z).trans hy.symm)⟩)
      rw [this]
      simp [hy]
    · rw [if_neg hy]
      simp [hy]
theorem getV_isSome {kvs : List (Str × α)} {x : Str} : (getV kvs x).isSome = decide (x ∈ kvs.map Prod.fst) := by
  unfold getV
  rw [Option.isSome_map, Bool.eq_iff_iff, List.find?_isSome, decide_eq_true_eq, List.mem_map]
  constructor
  · rintro ⟨p, h1, h2⟩
    exact ⟨p, h1, of_decide_eq_true h2⟩
  · rintro ⟨p, h1, h2⟩
    exact ⟨p, h1, decide_eq_true h2⟩
theorem putV_keys {kvs : List (Str × α)} {x : Str} {a : α} : (putV kvs x a).map Prod.fst = if x ∈ kvs.map Prod.fst then kvs.map Prod.fst else kvs.map Prod.fst ++ [x] := by
  unfold putV
  by_cases h : x ∈ kvs.map Prod.fst
  · have h1 : (kvs.any fun p => decide (p.1 = x)) = true := by
      obtain ⟨p, h1, h2⟩ := List.mem_map.mp h
      exact List.any_eq_true.mpr ⟨p, h1, decide_eq_true h2⟩
    rw [if_pos h1, if_pos h, List.map_map]
    apply List.map_congr_left
    intro p _
    show (if p.1 = x then (p.1, a) else p).1 = p.1
    split <;> rfl
  · have h1 : ¬ (kvs.any fun p => decide (p.1 = x)) = true := fun z => by
      obtain ⟨p, h1, h2⟩ := List.any_eq_true.mp z
      exact h (List.mem_map.mpr ⟨p, h1, of_decide_eq_true h2⟩)
    rw [if_neg h1, if_neg h, List.map_append]
    rfl
end
section
variable {P : Program} {w : World} {K : PySem.W.Frag} {W : WX} {eX : En} {α β γ δ σ σ' τ ρ : Type} {env env1 env2 : En} {ta tb td te ty tx tc : TE} {tt tu : TT} {tA tr : TA} {wi : TI} {g : TG} {e : α → Dt}
/-- an expression that gives a dict -/
def Xk (P : Program) (w : World) (K : PySem.W.Frag) (W : WX) (eX : En) (te : TE) (env : En) (m : R (List (Str × α))) (e : α → Dt) : Prop := match m with
  | .ok kvs => Edk P w K te env (kk e kvs)
  | .ex x => Er P w K W te env (x.xn K) eX
  | .no => True
theorem xk_d {m : R (List (Str × α))} (h : Xp P w K W eX te env m (eK e)) : Xk P w K W eX te env m e := by
  cases m with
  | ok a => exact edk_d h
  | ex x => exact h
  | no => trivial
theorem xk_o {i : Nat} {t' : Option Addr} {kvs : List (Str × α)} (hi : env[i]? = some (.ow t' (oK e kvs))) : Xk P w K W eX (tVar i) env (.ok kvs) e := edk_o hi
theorem xp_dget {md : R (List (Str × α))} {mk : R Str} (h : Xk P w K W eX td env md e) (hk : Xp P w K W eX ty env mk eS) : Xp P w K W eX (tDGet td ty) env (md.bind fun d => mk.bind fun x => getR d x) e := by
  cases md with
  | ok d =>
    cases mk with
    | ok x =>
      show Xp P w K W eX _ env (R.ofO (getV d x)) e
      cases q : getV d x with
      | some a => exact ep_dget (k := .inr x) h hk (by rw [valD_kk, q]; rfl)
      | none => trivial
    | ex x => exact fun F0 H0 F H σ S Q q => h F0 H0 F H σ S _ fun a qs F1 H1 k1 _ _ => hk F0 H0 F1 H1 σ (S.wk k1) _ fun od F2 H2 e2 => q od F2 H2 (k1.f.trans e2)
    | no => trivial
  | ex x => exact fun F0 H0 F H σ S Q q => h F0 H0 F H σ S _ q
  | no => trivial
theorem xp_dget2 {md : R (List (Str × α))} {mk : R Str} {mx : R α} (h : Xk P w K W eX td env md e) (hk : Xp P w K W eX ty env mk eS) (hx : Xp P w K W eX tx env mx e) : Xp P w K W eX (tDGet2 td ty tx) env (md.bind fun d => mk.bind fun x => mx.bind fun a => .ok ((getV d x).getD a)) e := by
  cases md with
  | ok d =>
    cases mk with
    | ok x =>
      cases mx with
      | ok a =>
        have := ep_dget2 (k := .inr x) h hk hx
        rw [valD_kk] at this
        show Ep P w K _ env (e ((getV d x).getD a))
        cases q : getV d x with
        | some b => rw [q] at this; exact this
        | none => rw [q] at this; exact this
      | ex z => exact fun F0 H0 F H σ S Q q => h F0 H0 F H σ S _ fun a qs F1 H1 k1 st _ => ⟨a, rfl, .inl ⟨_, st F1 H1 (Wk.refl k1.s)⟩, hk F0 H0 F1 H1 σ (S.wk k1) _ fun y F2 H2 k2 _ => hx F0 H0 F2 H2 σ ((S.wk k1).wk k2) _ fun od F3 H3 e3 => q od F3 H3 ((k1.f.trans k2.f).trans e3)⟩
      | no => trivial
    | ex z => exact fun F0 H0 F H σ S Q q => h F0 H0 F H σ S _ fun a qs F1 H1 k1 st _ => ⟨a, rfl, .inl ⟨_, st F1 H1 (Wk.refl k1.s)⟩, hk F0 H0 F1 H1 σ (S.wk k1) _ fun od F2 H2 e2 => q od F2 H2 (k1.f.trans e2)⟩
    | no => trivial
  | ex x => exact fun F0 H0 F H σ S Q q => h F0 H0 F H σ S _ q
  | no => trivial
theorem xo_dnew : Xo P w K W eX tDNewK env (.ok ([] : List (Str × α))) (oK e) := po_dnew
theorem xo_disp1 {mk : R Str} {mv : R α} (hk : Xp P w K W eX ty env mk eS) (hv : Xp P w K W eX te env mv e) : Xo P w K W eX (tDisp [(ty, te)]) env (mk.nox.bind fun x => mv.nox.bind fun a => .ok [(x, a)]) (oK e) := by
  cases mk with
  | ok x =>
    cases mv with
    | ok a => exact po_disp (ts := [(ty, te)]) (kvs := [(.inr x, e a)]) ⟨hk, hv, trivial⟩ (by simp)
    | ex z => trivial
    | no => trivial
  | ex x => trivial
  | no => trivial
theorem xo_disp2 {tk2 tv2 : TE} {mk mk2 : R Str} {mv mv2 : R α} (hk : Xp P w K W eX ty env mk eS) (hv : Xp P w K W eX te env mv e) (hk2 : Xp P w K W eX tk2 env mk2 eS) (hv2 : Xp P w K W eX tv2 env mv2 e) : Xo P w K W eX (tDisp [(ty, te), (tk2, tv2)]) env (mk.nox.bind fun x => mv.nox.bind fun a => mk2.nox.bind fun y => mv2.nox.bind fun b => .ok (putV [(x, a)] y b)) (oK e) := by
  cases mk with
  | ok x =>
    cases mv with
    | ok a =>
      cases mk2 with
      | ok y =>
        cases mv2 with
        | ok b =>
          have := po_disp (P := P) (w := w) (K := K) (env := env) (ts := [(ty, te), (tk2, tv2)]) (kvs := [(.inr x, e a), (.inr y, e b)]) ⟨hk, hv, hk2, hv2, trivial⟩ (by simp)
          have e2 : ([(Sum.inr x, e a), (Sum.inr y, e b)] : KD).foldl (fun a p => putD a p.1 p.2) [] = kk e (putV [(x, a)] y b) := by
            rw [← putD_kk]
            rfl
          rw [e2] at this
          exact this
        | ex z => trivial
        | no => trivial
      | ex z => trivial
      | no => trivial
    | ex z => trivial
    | no => trivial
  | ex x => trivial
  | no => trivial
end
section
variable {P : Program} {w : World} {K : PySem.W.Frag} {W : WX} {eX : En} {α β γ δ σ σ' τ ρ : Type} {env env1 env2 : En} {ta tb td te ty tx tc : TE} {e : α → Dt} {out : ρ → Out} {s2 : TS} {eN : σ' → En} {eLo : τ → En}
/-- d[k] = v -/
theorem sx_dput {i : Nat} {t' : Option Addr} {kvs : List (Str × α)} {m : R α} {n : R Str} {k : List (Str × α) → R (Ctl σ' τ ρ)} (hi : env[i]? = some (.ow t' (oK e kvs))) (h : Xp P w K W eX te env m e) (hn : Xp P w K W eX ty env n eS) (hk : ∀ q, Sx P w K W eX eLo out s2 (env.set i (.ow t' (oK e q))) (k q) eN) : Sx P w K W eX eLo out (tSeq (sDPut (tVar i) ty te) s2) env (m.bind fun a => n.bind fun x => R.need (kvs.length < 100000) (k (putV kvs x a))) eN := by
  cases m with
  | ok a =>
    cases n with
    | ok x =>
      show Sx P w K W eX eLo out _ env (R.need _ (k (putV kvs x a))) eN
      unfold R.need
      split
      · rename_i hz
        have hk := hk (putV kvs x a)
        rw [show oK e (putV kvs x a) = Ow.dk (putD (kk e kvs) (.inr x) (e a)) by rw [putD_kk]] at hk
        exact sx_seqE (se_dput (k := .inr x) (ee_p h) hn hi (by rw [kk_len]; exact hz)) hk
      · trivial
    | ex z =>
      refine se_seqF (o := .rz W (z.xn K) eX) fun F0 H0 F H σ D S p => h F0 H0 F H σ S _ fun v F1 H1 k1 r => ?_
      obtain ⟨p0, o0, e0, _⟩ := (S.wk k1).own hi
      exact ⟨_, e0, hn F0 H0 F1 H1 σ (S.wk k1) _ fun od F2 H2 e2 => p od F2 H2 σ (k1.f.trans e2)⟩
    | no => trivial
  | ex x => exact se_seqF (o := .rz W (x.xn K) eX) fun F0 H0 F H σ D S p => h F0 H0 F H σ S _ fun od F1 H1 e1 => p od F1 H1 σ e1
  | no => trivial
end
end Mw
set_option maxHeartbeats 1000000
namespace Mw
open PySem PySem.Spec PyProof.Rows L2 Qw
open Evl hiding ea_cons
open Pw (Dt Rp RpL Wk R2d R1d RLd RLn Kq KqL none_sub spX2 get_set set_same set_ne Wl py)
section
variable {P : Program} {w : World} {K : PySem.W.Frag} {W : WX} {eX : En} {α β γ δ σ σ' τ ρ : Type} {env env1 env2 : En} {ta tb td te ty tx tc : TE} {tt tu : TT} {tA tr : TA}
theorem ep_isND {d : Dt} (h : Ep P w K te env (eD d)) : Ep P w K (tOp rIsN te (tC .non)) env (eB (isNonD d)) := ep_isN h
theorem ep_notND {d : Dt} (h : Ep P w K te env (eD d)) : Ep P w K (tOp rNotN te (tC .non)) env (eB (!isNonD d)) := fun F0 H0 F H σ S Q q => h F0 H0 F H σ S _ fun v F1 H1 k r => by
  refine ⟨rfl, ?_⟩
  rw [isNon_dec (show Rp K F1 d v from r)]
  exact q _ F1 H1 k rfl
def asP4 (f : Dt → Option α) (g : Dt → Option β) (h : Dt → Option γ) (k : Dt → Option δ) : Dt → Option (α × β × γ × δ)
  | .tup [a, b, c, d] => (f a).bind fun x => (g b).bind fun y => (h c).bind fun z => (k d).map fun u => (x, y, z, u)
  | _ => none
theorem as_p4 {f : Dt → Option α} {g : Dt → Option β} {h : Dt → Option γ} {k : Dt → Option δ} {e1 : α → Dt} {e2 : β → Dt} {e3 : γ → Dt} {e4 : δ → Dt} (h1 : AsOk f e1) (h2 : AsOk g e2) (h3 : AsOk h e3) (h4 : AsOk k e4) : AsOk (asP4 f g h k) (eP4 e1 e2 e3 e4) := fun d p => by
  constructor
  · intro q
    unfold asP4 at q
    split at q
    · rename_i a b c d
      obtain ⟨x, hx, q⟩ := Option.bind_eq_some_iff.mp q
      obtain ⟨y, hy, q⟩ := Option.bind_eq_some_iff.mp q
      obtain ⟨z, hz, q⟩ := Option.bind_eq_some_iff.mp q
      obtain ⟨u, hu, rfl⟩ := Option.map_eq_some_iff.mp q
      rw [(h1 a x).mp hx, (h2 b y).mp hy, (h3 c z).mp hz, (h4 d u).mp hu]
    · cases q
  · rintro rfl
    show (f (e1 p.1)).bind _ = _
    rw [h1.mk, Option.bind_some, h2.mk, Option.bind_some, h3.mk, Option.bind_some, h4.mk]
    rfl
theorem inV_strs (x : Str) (xs : List Str) : inV (V.str x) (xs.map V.str) = decide (x ∈ xs) := by
  unfold inV
  induction xs with
  | nil => rfl
  | cons a xs ih =>
    rw [List.map_cons, List.any_cons, ih]
    have : eqV (V.str a) (V.str x) = decide (x = a) := by
      simp only [eqV]
      by_cases e : x = a
      · subst e; simp
      · simp [e, Ne.symm e]
    rw [this]
    simp
theorem fl_strsM (xs : List Str) : (xs.map Dt.str).map Pw.fl = xs.map V.str := by
  rw [List.map_map]
  rfl
theorem r2_inST {x : Str} {xs : List Str} : R2d K (rIn K false) (.str x) (eT eS xs) (.bl (decide (x ∈ xs))) := by
  have h := Pw.r2_inT (K := K) (neg := false) (d := .str x) (ds := xs.map Dt.str) rfl (by simp [Pw.flatD]) rfl (by rw [fl_strsM]; simp [flatV])
  refine r2_is h ?_
  rw [fl_strsM]
  exact congrArg Dt.bl (inV_strs x xs)
def ltS (a b : Str) : Bool := decide (a.cps.toList < b.cps.toList)
theorem r2_ltS {a b : Str} : R2d K (fun x y H Q => ∃ i j, x = V.str i ∧ y = V.str j ∧ Q (.bl (decide (i.cps.toList < j.cps.toList))) H) (.str a) (.str b) (.bl (ltS a b)) := fun F H x y s r1 r2 Q q => ⟨a, b, r1, r2, q _ F H (Wk.refl s) rfl⟩
theorem ltS_irr (a : Str) : ltS a a = false := decide_eq_false (List.lt_irrefl _)
def PyS (n : Nat) (e : α → Dt) (o : α → Bool) : Prop := ∃ p : α → PyData, (∀ a, py (e a) = some (p a)) ∧ (∀ a, o a = true → (p a).canLay0 = true) ∧ (∀ a, (p a).depth ≤ n) ∧ ∀ a b, PyData.eqv (p a) (p b) = true ↔ a = b
def okStr (x : Str) : Bool := (PyData.str x).canLay0
theorem pyS_str : PyS 0 eS okStr := ⟨PyData.str, fun _ => rfl, fun _ h => h, fun _ => Nat.le_refl _, fun a b => by simp [PyData.eqv]⟩
theorem layAll_mapO {p : α → PyData} {o : α → Bool} (h : ∀ a, o a = true → (p a).canLay0 = true) : ∀ xs : List α, xs.all o = true → PyData.canLayAll0 (xs.map p) = true
  | [], _ => rfl
  | a :: xs, ho => by
    rw [List.all_cons, Bool.and_eq_true] at ho
    show (PyData.canLay0 (p a) && PyData.canLayAll0 (xs.map p)) = true
    rw [h a ho.1, layAll_mapO h xs ho.2]
    rfl
theorem pyS_tup {n : Nat} {e : α → Dt} {o : α → Bool} (h : PyS n e o) : PyS (n + 1) (eT e) fun xs => xs.all o := by
  obtain ⟨p, h1, h2, h3, h4⟩ := h
  refine ⟨fun xs => .tuple (xs.map p), fun xs => ?_, fun xs => layAll_mapO h2 xs, fun xs => ?_, fun a b => ?_⟩
  · show (Pw.pyL (xs.map e)).map PyData.tuple = _
    rw [pyL_map h1]
    rfl
  · show PyData.depthAll (xs.map p) + 1 ≤ n + 1
    have := depthAll_map h3 xs
    omega
  · show PyData.eqvAll _ _ = true ↔ _
    exact eqvAll_map h4 a b
def eqSR [DecidableEq α] (o : α → Bool) (a b : α) : R Bool := R.need ((o a && o b) = true) (.ok (decide (a = b)))
theorem rm_eqS [DecidableEq α] {n : Nat} {e : α → Dt} {o : α → Bool} (h : PyS n e o) (hn : n ≤ 64) {a b : α} : R2m K (rEqD K) (e a) (e b) (eqSR o a b) eB := rm_need fun ho => by
  rw [Bool.and_eq_true] at ho
  obtain ⟨p, h1, h2, h3, h4⟩ := h
  have := Pw.r2_eqD (K := K) (h1 a) (h1 b) (by unfold SeqAt.shaped; rw [h2 a ho.1, decide_eq_true (Nat.le_trans (h3 a) hn)]; rfl) (by unfold SeqAt.shaped; rw [h2 b ho.2, decide_eq_true (Nat.le_trans (h3 b) hn)]; rfl)
  refine rm_v (z := eB) (r2_is this ?_)
  congr 1
  rw [Bool.eq_iff_iff, h4, decide_eq_true_eq]
end
section
variable {P : Program} {w : World} {K : PySem.W.Frag} {W : WX} {eX : En} {α β γ δ σ σ' τ ρ : Type} {env env1 env2 : En} {ta tb td te ty tx tc : TE} {e : α → Dt} {out : ρ → Out} {s2 : TS} {eN : σ' → En} {eLo : τ → En}
theorem sx_dputB {i : Nat} {t' : Option Addr} {kvs : List (Str × α)} {m : R α} {n : R Str} {k : List (Str × α) → R (Ctl σ' τ ρ)} (hi : env[i]? = some (.ow t' (oK e kvs))) (h : Xp P w K W eX te env m e) (hn : Xp P w K W eX ty env n eS) (hk : ∀ q, Sx P w K W eX eLo out s2 (env.set i (.ow t' (oK e q))) (k q) eN) : Sx P w K W eX eLo out (tSeq (sDPut (tVar i) ty te) s2) env (m.bind fun a => n.bind fun x => R.need (kvs.length < 100000) (R.bind (R.ok (putV kvs x a)) k)) eN := sx_dput hi h hn hk
end
end Mw
namespace Qw
open PySem PySem.Spec PyProof.Rows L2 Evl
end Qw
set_option maxHeartbeats 1000000
namespace Mw
open PySem PySem.Spec PyProof.Rows L2 Qw
open Evl hiding ea_cons
open Pw (Dt Rp RpL Wk R2d R1d RLd RLn Kq KqL none_sub spX2 get_set set_same set_ne Wl py tyD isI isB isS isTp isL)
end Mw
set_option maxHeartbeats 1000000
namespace Mw
open PySem PySem.Spec PyProof.Rows L2 Qw
open Evl hiding ea_cons
open Pw (Dt Rp RpL)
section
variable {P : Program} {w : World} {K : PySem.W.Frag} {W : WX} {eX : En} {env : En}
theorem xp_noxM {α : Type} {te : TE} {m : R α} {d : α → Dt} (h : Xp P w K W eX te env m d) : Xp P w K W eX te env m.nox d := by
  cases m with
  | ok a => exact h
  | ex x => trivial
  | no => trivial
end
end Mw
set_option maxHeartbeats 1000000
namespace Qw
open PySem PySem.Spec PyProof.Rows L2
open Pw (Dt)
end Qw
set_option maxHeartbeats 1000000
namespace Mw
open PySem PySem.Spec PyProof.Rows L2 Qw
open Evl hiding ea_cons
open Pw (Dt Rp RpL Wk R2d R1d RLd RLn Kq KqL none_sub spX2 get_set set_same set_ne Wl)
mutual
def nd : Dt → Bool
  | .tup ds => ndL ds
  | .lst ds => ndL ds
  | .obj _ _ ds => ndL ds
  | .dic _ _ => false
  | .dit _ _ => false
  | .exc _ _ _ => false
  | _ => true
def ndL : List Dt → Bool
  | [] => true
  | d :: ds => nd d && ndL ds
end
/-- all but dicts stay -/
def NoDk (F F' : Hp) : Prop := ∀ b o, F b = some o → (∀ q, o ≠ .dK q) → (∀ x q, o ≠ .frz x (.dK q)) → F' b = some o
section
variable {K : PySem.W.Frag} {F F' : Hp}
theorem NoDk.l (n : NoDk F F') {a : Addr} {xs : List V} (h : SqL K F a xs) : SqL K F' a xs := by
  rcases h with (h | ⟨o, h⟩) | h
  · exact .inl (.inl (n _ _ h (fun _ z => nomatch z) fun _ _ z => nomatch z))
  · exact .inl (.inr ⟨o, n _ _ h (fun _ z => nomatch z) fun _ _ z => nomatch z⟩)
  · exact .inr h
theorem NoDk.t (n : NoDk F F') {a : Addr} {xs : List V} (h : SqT K F a xs) : SqT K F' a xs := by
  rcases h with (h | ⟨o, h⟩) | h
  · exact .inl (.inl (n _ _ h (fun _ z => nomatch z) fun _ _ z => nomatch z))
  · exact .inl (.inr ⟨o, n _ _ h (fun _ z => nomatch z) fun _ _ z => nomatch z⟩)
  · exact .inr h
end
theorem ndL_map {α : Type} {e : α → Dt} (h : ∀ a, nd (e a) = true) : ∀ xs : List α, ndL (xs.map e) = true
  | [] => rfl
  | x :: xs => by
    show (nd (e x) && ndL (xs.map e)) = true
    rw [h x, ndL_map h xs]
    rfl
/-- an encoding of data without dicts -/
class ND {α : Type} (e : α → Dt) : Prop where
  h : ∀ a, nd (e a) = true
instance : ND eI := ⟨fun _ => rfl⟩
instance : ND eB := ⟨fun _ => rfl⟩
instance : ND eS := ⟨fun _ => rfl⟩
instance : ND eU := ⟨fun _ => rfl⟩
instance {α : Type} {e : α → Dt} [i : ND e] : ND (eL e) := ⟨fun xs => ndL_map i.h xs⟩
instance {α : Type} {e : α → Dt} [i : ND e] : ND (eT e) := ⟨fun xs => ndL_map i.h xs⟩
instance {α β : Type} {e : α → Dt} {f : β → Dt} [i : ND e] [j : ND f] : ND (eP2 e f) := ⟨fun p => by
  show (nd (e p.1) && (nd (f p.2) && true)) = true
  rw [i.h, j.h]; rfl⟩
instance {α β γ : Type} {e : α → Dt} {f : β → Dt} {g : γ → Dt} [i : ND e] [j : ND f] [k : ND g] : ND (eP3 e f g) := ⟨fun p => by
  show (nd (e p.1) && (nd (f p.2.1) && (nd (g p.2.2) && true))) = true
  rw [i.h, j.h, k.h]; rfl⟩
instance {α β γ δ : Type} {e : α → Dt} {f : β → Dt} {g : γ → Dt} {l : δ → Dt} [i : ND e] [j : ND f] [k : ND g] [m : ND l] : ND (eP4 e f g l) := ⟨fun p => by
  show (nd (e p.1) && (nd (f p.2.1) && (nd (g p.2.2.1) && (nd (l p.2.2.2) && true)))) = true
  rw [i.h, j.h, k.h, m.h]; rfl⟩
instance {α : Type} {e : α → Dt} [i : ND e] : ND (eO e) := ⟨fun o => by
  cases o with
  | none => rfl
  | some a => exact i.h a⟩
def ndW : Ow → Bool
  | .lst ds => ndL ds
  | .dic _ ds => ndL ds
  | .dit _ ds => ndL ds
  | .set _ _ => true
  | .ins _ _ ds => ndL ds
def ndS : Sl → Bool
  | .x => true
  | .u => true
  | .d d => nd d
  | .ow _ u => ndW u
  | _ => false
/-- the slots as they are told within the walk; u: what the slots hold -/
inductive LkE (u : Nat → V) : Nat → En → En → Prop where
  | nil {i : Nat} : LkE u i [] []
  | s {i : Nat} {s : Sl} {a b : En} (h : ndS s = true) (t : LkE u (i + 1) a b) : LkE u i (s :: a) (s :: b)
  | x {i : Nat} {s : Sl} {a b : En} (t : LkE u (i + 1) a b) : LkE u i (s :: a) (.x :: b)
  | n {i : Nat} {d : Dt} {a b : En} (t : LkE u (i + 1) a b) : LkE u i (.d d :: a) (.lk (u i) .n :: b)
  | r {i : Nat} {kvs : KD} {a b : En} (h : ndL (kvs.map Prod.snd) = true) (t : LkE u (i + 1) a b) : LkE u i (.d (dk kvs) :: a) (.lk (u i) (.r kvs) :: b)
/-- .. and behind it again -/
inductive UnE (u : Nat → V) : Nat → En → En → En → Prop where
  | nil {i : Nat} : UnE u i [] [] []
  | s {i : Nat} {s0 s : Sl} {a b c : En} (h : ndS s = true) (t : UnE u (i + 1) a b c) : UnE u i (s0 :: a) (s :: b) (s :: c)
  | x {i : Nat} {s0 s : Sl} {a b c : En} (t : UnE u (i + 1) a b c) : UnE u i (s0 :: a) (s :: b) (.x :: c)
  | d {i : Nat} {d : Dt} {x : LkI} {a b c : En} (t : UnE u (i + 1) a b c) : UnE u i (.d d :: a) (.lk (u i) x :: b) (.d d :: c)
theorem LkE.len {u : Nat → V} : ∀ {i : Nat} {a b : En}, LkE u i a b → a.length = b.length
  | _, _, _, .nil => rfl
  | _, _, _, .s _ t => congrArg (· + 1) t.len
  | _, _, _, .x t => congrArg (· + 1) t.len
  | _, _, _, .n t => congrArg (· + 1) t.len
  | _, _, _, .r _ t => congrArg (· + 1) t.len
theorem LkE.at {u : Nat → V} : ∀ {i : Nat} {a b : En}, LkE u i a b → ∀ (j : Nat) (s : Sl), b[j]? = some s → s = .x ∨ (ndS s = true ∧ a[j]? = some s) ∨ (∃ d, s = .lk (u (i + j)) .n ∧ a[j]? = some (.d d)) ∨ ∃ kvs : KD, s = .lk (u (i + j)) (.r kvs) ∧ ndL (kvs.map Prod.snd) = true ∧ a[j]? = some (.d (dk kvs))
  | _, _, _, .nil, _, _, h => by simp at h
  | _, _, _, .s h t, 0, s', e => by
    cases e
    exact .inr (.inl ⟨h, rfl⟩)
  | _, _, _, .x t, 0, s', e => by
    cases e
    exact .inl rfl
  | _, _, _, .n t, 0, s', e => by
    cases e
    exact .inr (.inr (.inl ⟨_, rfl, rfl⟩))
  | _, _, _, .r h t, 0, s', e => by
    cases e
    exact .inr (.inr (.inr ⟨_, rfl, h, rfl⟩))
  | i, _, _, .s h t, j + 1, s', e => by
    have := t.at j s' (by simpa using e)
    rw [show i + 1 + j = i + (j + 1) by omega] at this
    simpa using this
  | i, _, _, .x t, j + 1, s', e => by
    have := t.at j s' (by simpa using e)
    rw [show i + 1 + j = i + (j + 1) by omega] at this
    simpa using this
  | i, _, _, .n t, j + 1, s', e => by
    have := t.at j s' (by simpa using e)
    rw [show i + 1 + j = i + (j + 1) by omega] at this
    simpa using this
  | i, _, _, .r h t, j + 1, s', e => by
    have := t.at j s' (by simpa using e)
    rw [show i + 1 + j = i + (j + 1) by omega] at this
    simpa using this
theorem UnE.len {u : Nat → V} : ∀ {i : Nat} {a b c : En}, UnE u i a b c → a.length = c.length ∧ b.length = c.length
  | _, _, _, _, .nil => ⟨rfl, rfl⟩
  | _, _, _, _, .s _ t => ⟨congrArg (· + 1) t.len.1, congrArg (· + 1) t.len.2⟩
  | _, _, _, _, .x t => ⟨congrArg (· + 1) t.len.1, congrArg (· + 1) t.len.2⟩
  | _, _, _, _, .d t => ⟨congrArg (· + 1) t.len.1, congrArg (· + 1) t.len.2⟩
theorem UnE.at {u : Nat → V} : ∀ {i : Nat} {a b c : En}, UnE u i a b c → ∀ (j : Nat) (s : Sl), c[j]? = some s → s = .x ∨ (ndS s = true ∧ b[j]? = some s) ∨ ∃ d x, s = .d d ∧ a[j]? = some (.d d) ∧ b[j]? = some (.lk (u (i + j)) x)
  | _, _, _, _, .nil, _, _, h => by simp at h
  | _, _, _, _, .s h t, 0, s', e => by
    cases e
    exact .inr (.inl ⟨h, rfl⟩)
  | _, _, _, _, .x t, 0, s', e => by
    cases e
    exact .inl rfl
  | _, _, _, _, .d t, 0, s', e => by
    cases e
    exact .inr (.inr ⟨_, _, rfl, rfl, rfl⟩)
  | i, _, _, _, .s h t, j + 1, s', e => by
    have := t.at j s' (by simpa using e)
    rw [show i + 1 + j = i + (j + 1) by omega] at this
    simpa using this
  | i, _, _, _, .x t, j + 1, s', e => by
    have := t.at j s' (by simpa using e)
    rw [show i + 1 + j = i + (j + 1) by omega] at this
    simpa using this
  | i, _, _, _, .d t, j + 1, s', e => by
    have := t.at j s' (by simpa using e)
    rw [show i + 1 + j = i + (j + 1) by omega] at this
    simpa using this
end Mw
set_option maxHeartbeats 1000000
namespace Mw
open PySem PySem.Spec PyProof.Rows L2 Qw
open Evl hiding ea_cons
open Pw (Dt Rp RpL Wk R2d R1d RLd RLn Kq KqL none_sub spX2 get_set set_same set_ne rangeD rangeD_len py pyL fl flatD)
end Mw
set_option maxHeartbeats 1000000
namespace Mw
open PySem PySem.Spec PyProof.Rows L2 Qw
open Evl hiding ea_cons
open Pw (Dt Rp RpL Wk R2d R1d RLd RLn Kq KqL none_sub spX2 get_set set_same set_ne rangeD rangeD_len py pyL fl flatD)
/-- the enumerate at e before turn i: the pair it gave last is free, or held by someone -/
def EnSt (h : Heap) (e it : Addr) (i : Nat) : Prop := (∃ old, IsEnum h e it (i : Int) old) ∨ ∃ old T f oT, IsEnumHeld h e it (i : Int) old T f ∧ h.get? T = some oT ∧ T ≠ e ∧ T ≠ it
section
variable {prog : Program} {w : World} {A : Around} {E : Value → Shared → Prop} {s : Shared}
theorem EnSt.lt {h : Heap} {e it : Addr} {i : Nat} (H : EnSt h e it i) : e < h.objs.size := by
  rcases H with ⟨old, he⟩ | ⟨old, T, f, oT, he, _⟩
  · exact Heap.lt_size he
  · exact Heap.lt_size he
end
end Mw
set_option maxHeartbeats 1000000
namespace Mw
open PySem PySem.Spec PyProof.Rows L2 Qw
open Evl hiding ea_cons
open Pw (Dt Rp RpL Wk R2d R1d RLd RLn Kq KqL none_sub spX2 get_set set_same set_ne rangeD rangeD_len py pyL fl flatD)
open AutoSeq1 (wpAny_loadPart')
end Mw
set_option maxHeartbeats 1000000
namespace Qw
open PySem PySem.Spec PyProof.Rows L2 Evl
end Qw
namespace Mw
open PySem PySem.Spec PyProof.Rows L2 Qw
open Evl hiding ea_cons
open Pw (Dt Rp RpL Wk R2d R1d RLd RLn Kq KqL none_sub spX2 get_set set_same set_ne)
section
variable {P : Program} {w : World} {K : PySem.W.Frag} {W Wout : WX} {eX eB : En} {σ τ ρ : Type} {env : En}
/-- what is raised of the classes l1 goes to h1, of l2 to h2 -/
def R.catch2 (l1 l2 : List Str) (m h1 h2 : R (Ctl σ τ ρ)) : R (Ctl σ τ ρ) := match m with
  | .ex x => if l1.contains x.C = true then h1 else if l2.contains x.C = true then h2 else .no
  | m => m
@[simp] theorem catch2_ok {l1 l2 : List Str} {c : Ctl σ τ ρ} {h1 h2 : R (Ctl σ τ ρ)} : R.catch2 l1 l2 (.ok c) h1 h2 = .ok c := rfl
end
end Mw
set_option maxHeartbeats 1000000
namespace Qw
open PySem PySem.Spec PyProof.Rows L2 Evl
open Pw (Dt Rp RpL Wk none_sub get_set set_same set_ne R2d R1d RLd RLn Kq KqL)
section
variable {P : Program} {w : World} {K : PySem.W.Frag} {mg : Str → Option Value} {base : Heap}
theorem Mx.ofSpX {C : Addr} {m q : Str} {ps N : List Str} {st : Stmt} {k : Nat} {sp : Sp} (D : Dm K C m q ps st) (S : FnScope N ps (defScope st)) (hl : ∀ vs H Q E, sp vs H Q E → vs.length = ps.length)
    (hb : ∀ (f : Addr) (cdv : Value) (A : Around) (outer : List Env) (s : Shared) (H : Hp) (E : XK), Room k (A.deeper (envOfC q (defScope st) s.heap.objs.size f cdv)) →
      Takes (cxOf (L2.CX P w) P w K mg base N q (defScope st) f cdv A outer s H E) (fun cls d _ H => E cls d H) →
      ∃ t, PSs (cxOf (L2.CX P w) P w K mg base N q (defScope st) f cdv A outer s H E) (defBody st) t ∧ ∀ vs Q, sp vs H Q E → t { nx := fun _ H' => Q .non H', rt := Q } (L2.start N vs) H) :
    Mx P w K mg base (k + 1) C m ps sp := by
  obtain ⟨f, fd, h1, F, h3⟩ := D
  refine ⟨f, fd, h1, h3, F.ok S hl fun cdv A outer s H vs Q E hr h => ?_⟩
  obtain ⟨t, ht, hs⟩ := hb f cdv A outer s H E hr (takes_of rfl rfl rfl rfl)
  exact ⟨t, ht, hs vs Q h⟩
variable {F0 H0 F H F1 H1 : Hp} {σ : L2.St} {env env1 : En}
/-- o.m(..) that changes o -/
theorem ee_methM {E : XK} {i : Nat} {nm : Str} {Rm : Ow → List Dt → Dt → Ow → Prop} {tA : TA} {t' : Option Addr} {C : Addr} {fs : List Str} {es0 ds : List Dt} {u u' : Ow} {d : Dt} (h : EeA P w K tA env ds env1) (hi0 : env[i]? = some (.ow t' (.ins C fs es0))) (hm : fs.contains nm = false) (hi : env1[i]? = some (.ow t' u)) (hf : Rm u ds d u') :
    Ee P w K (tMeth C nm (spM P w K Rm) [] E (tVar i) tA) env d (env1.set i (.ow t' u')) := ⟨h.1.trans (Sh.set hi), fun F0 H0 F H σ S Q q => by
  obtain ⟨p0, o0, e0, _, _, _, g30, dx, vs0, rfl, l0, _⟩ := S.own hi0
  refine ⟨_, e0, p0, dx, _, rfl, g30, zip_none hm, h.2 F0 H0 F H σ S _ fun vs F1 H1 w1 S1 r1 => ?_⟩
  obtain ⟨p, o1, e1, g0, g1, g2, g3, g4⟩ := S1.own hi
  rw [e0] at e1
  cases e1
  refine ⟨F1, p0, vs, o1, u, ds, d, u', by rw [List.append_nil], S1.sub, g1, g3, g4, r1, hf, fun v F2 H2 o2 f2 s2 k2 n2 b2 h2 r2 rv => ?_⟩
  have kW : Wk F1 H1 F2 (L2.upd H2 p0 o1) := by
    refine ⟨f2, fun a v e => ?_, fun a v e => ?_, n2⟩
    · by_cases z : a = p0
      · subst z
        rw [g3] at e
        rw [upd_same, e]
      · rw [upd_ne z]
        exact k2 a v z e
    · by_cases z : a = p0
      · subst z
        rw [n2 a _ g3 g1] at e
        cases e
      · rw [upd_ne z]
        exact s2 a v e
  have S2 := S1.wk kW
  have e2 : L2.upd (L2.upd H2 p0 o1) p0 o2 = H2 := by
    funext a
    by_cases z : a = p0
    · subst z
      rw [upd_same, h2]
    · rw [upd_ne z, upd_ne z]
  have S3 := S2.mut hi e0 r2
  have W3 := Wo.mut (o := o2) S2 hi e0
  rw [e2] at S3 W3
  exact q v F2 H2 (w1.trans h.1 ((Wo.of kW).trans Sh.refl W3)) S3 rv⟩
theorem eo_make {E : XK} {C : Addr} {tA : TA} {fs : List Str} {ds es : List Dt} {Rc : List Dt → Ri → Prop} (h : EeA P w K tA env ds env1) (hR : Rc ds (.f fs es)) : EnO P w K (tMake C (spI P w K C Rc) [] E tA) env (.ins C fs es) env1 := ⟨h.1, fun F0 H0 F H σ S Q q =>
  h.2 F0 H0 F H σ S _ fun vs F1 H1 w1 S1 r1 x dx hx hdx ne => by
    have n1 : F1 x = none := none_sub S1.sub hx
    refine ⟨F1, x, dx, vs, ds, .f fs es, by rw [List.append_nil], fun a u z => ?_, n1, upd_same, r1, hR, fun F2 H2 o2 f2 s2 k2 n2 h2 r2 => ?_⟩
    · rw [upd_ne (ne_of_none z n1), upd_ne (ne_of_none z (none_sub S1.sub hdx))]
      exact S1.sub a u z
    · have kW : Wk F1 H1 F2 H2 := ⟨f2, fun a u z => (by
        refine k2 a u (ne_of_none z hx) ?_
        rw [upd_ne (ne_of_none z hx), upd_ne (ne_of_none z hdx)]
        exact z), s2, fun a u z n => (by
        refine n2 a u ?_ n
        rw [upd_ne (ne_of_none z hx), upd_ne (ne_of_none z hdx)]
        exact z)⟩
      exact ⟨rfl, q x o2 F2 H2 (w1.trans h.1 (.of kW)) (S1.wk kW) (w1.b x hx) (n2 x _ upd_same n1) h2 r2⟩⟩
mutual
/-- no object of a class in it -/
def noObj : Dt → Bool
  | .obj .. | .exc .. => false
  | .tup ds | .lst ds | .dic _ ds | .dit _ ds => noObjL ds
  | _ => true
def noObjL : List Dt → Bool
  | [] => true
  | d :: ds => noObj d && noObjL ds
end
theorem noObjL_all : ∀ {ds : List Dt}, noObjL ds = ds.all noObj
  | [] => rfl
  | d :: ds => by rw [List.all_cons, ← noObjL_all]; rfl
theorem rd_hide {p a : Addr} {o : HO} {C dx : Addr} {q : List (Str × V)} (hp : F p = some (.ins C dx q)) (hn : ∀ C dx q, o ≠ .ins C dx q) (h : Rd F a o) : Rd (hide F p) a o := by
  have ne : a ≠ p := fun z => by
    subst z
    rcases h with h | ⟨o', h⟩
    · rw [hp] at h
      exact hn _ _ _ (Option.some.inj h).symm
    · rw [hp] at h
      cases h
  rcases h with h | ⟨o', h⟩
  · exact .inl (by rw [hide_ne ne]; exact h)
  · exact .inr ⟨o', by rw [hide_ne ne]; exact h⟩
mutual
theorem rp_hide {p : Addr} {C dx : Addr} {q : List (Str × V)} (hp : F p = some (.ins C dx q)) : ∀ {d : Dt} {v : V}, Rp K F d v → noObj d = true → Rp K (hide F p) d v
  | .non, _, h, _ => h
  | .bl _, _, h, _ => h
  | .int _, _, h, _ => h
  | .str _, _, h, _ => h
  | .tup ds, v, h, n => by
    obtain ⟨a, vs, e1, h1, h2⟩ := h
    exact ⟨a, vs, e1, h1.imp (rd_hide hp (fun _ _ _ z => nomatch z)) id, rpL_hide hp h2 n⟩
  | .lst ds, v, h, n => by
    obtain ⟨a, vs, e1, h1, h2⟩ := h
    exact ⟨a, vs, e1, h1.imp (rd_hide hp (fun _ _ _ z => nomatch z)) id, rpL_hide hp h2 n⟩
  | .dic ks ds, v, h, n => by
    obtain ⟨a, vs, e1, h1, h3, h2⟩ := h
    refine ⟨a, vs, e1, ?_, h3, rpL_hide hp h2 n⟩
    rw [hide_ne (fun z => by rw [z, hp] at h1; cases h1)]
    exact h1
  | .dit ks ds, v, h, n => by
    obtain ⟨a, vs, e1, h1, h3, h2⟩ := h
    refine ⟨a, vs, e1, ?_, h3, rpL_hide hp h2 n⟩
    rw [hide_ne (fun z => by rw [z, hp] at h1; cases h1)]
    exact h1
  | .obj _ _ _, _, _, n => nomatch n
  | .exc _ _ _, _, _, n => nomatch n
  | .ty _, _, h, _ => h
  | .adr _, _, h, _ => h
theorem rpL_hide {p : Addr} {C dx : Addr} {q : List (Str × V)} (hp : F p = some (.ins C dx q)) : ∀ {ds : List Dt} {vs : List V}, RpL K F ds vs → noObjL ds = true → RpL K (hide F p) ds vs
  | [], _, h, _ => h
  | d :: ds, vs, h, n => by
    obtain ⟨v, r, e1, h1, h2⟩ := h
    have n : (noObj d && noObjL ds) = true := n
    rw [Bool.and_eq_true] at n
    exact ⟨v, r, e1, rp_hide hp h1 n.1, rpL_hide hp h2 n.2⟩
end
end
end Qw
namespace Mw
open PySem PySem.Spec PyProof.Rows L2 Evl Qw
open Pw (Dt Rp RpL Wk none_sub get_set set_same set_ne R2d R1d RLd RLn Kq KqL)
section
variable {P : Program} {w : World} {K : PySem.W.Frag} {W : WX} {eX : En} {env : En} {α β γ δ σ σ' τ ρ : Type}
theorem ye_methM {E : XK} {i : Nat} {nm : Str} {t' : Option Addr} {C : Addr} {fs : List Str} {us : δ → Ow} {es0 : List Dt} {ea : α → List Dt} {m : δ → α → R (γ × δ)} {er : γ → Dt} {tA : TA} {ma : R (α × σ)} {get : σ → δ} {put : σ → δ → σ} {en : σ → En} (h : Ya P w K W eX tA env ma ea en) (hi0 : env[i]? = some (.ow t' (.ins C fs es0))) (hm : fs.contains nm = false) (hi : ∀ v, (en v)[i]? = some (.ow t' (us (get v)))) (hp : ∀ v x, (en v).set i (.ow t' (us x)) = en (put v x)) : Ye P w K W eX (tMeth C nm (spM P w K (RM us ea m er)) [] E (tVar i) tA) env (ma.bind2 fun a v => (m (get v) a).nox.bind2 fun z x => .ok (z, put v x)) er en := by
  cases ma with
  | ok p =>
    obtain ⟨a, v⟩ := p
    show Ye P w K W eX _ env ((m (get v) a).nox.bind2 fun z x => .ok (z, put v x)) er en
    cases e : m (get v) a with
    | ok c =>
      show Ee P w K _ env (er c.1) (en (put v c.2))
      rw [← hp]
      exact ee_methM h hi0 hm (hi v) ⟨get v, a, rfl, rfl, by rw [e]; exact ⟨rfl, rfl⟩⟩
    | ex x => trivial
    | no => trivial
  | ex x =>
    refine fun F0 H0 F H σ S Q q => ?_
    obtain ⟨p0, o0, e0, _, _, _, g30, dx, vs0, rfl, l0, _⟩ := S.own hi0
    exact ⟨_, e0, p0, dx, _, rfl, g30, zip_none hm, h F0 H0 F H σ S _ q⟩
  | no => trivial
/-- self.f = e, f is there -/
theorem sx_fldS {i k : Nat} {t : Option Addr} {n : Str} {C : Addr} {fs : List Str} {ds : List Dt} {te : TE} {da : α → Dt} {m : R α} {f : α → R (Ctl σ τ ρ)} {eL : τ → En} {out : ρ → Out} {s2 : TS} {eN : σ → En} (c : Cls K C) (hn : NoAttr K C n) (h : Xp P w K W eX te env m da) (hi : env[i]? = some (.ow t (.ins C fs ds))) (hk : fs[k]? = some n) (hf : ∀ j, j < k → fs[j]? ≠ some n) (hz : fs.length < 900)
    (hs : ∀ a, Sx P w K W eX eL out s2 (env.set i (.ow t (.ins C fs (ds.set k (da a))))) (f a) eN) : Sx P w K W eX eL out (tSeq (sFld K (tVar i) te n) s2) env (m.bind f) eN := by
  cases m with
  | ok a => exact sx_seqE (se_fldS c hn (ee_p h) hi hk hf hz) (hs a)
  | ex x => exact se_seqF (o := .rz W (x.xn K) eX) (fun F0 H0 F H σ D S p => h F0 H0 F H σ S _ fun od F1 H1 e S1 => p od F1 H1 σ e S1)
  | no => trivial
/-- C(..), the arguments change the state -/
theorem yo_make {E : XK} {C : Addr} {fs : List Str} {ea : α → List Dt} {m : α → R β} {ef : β → List Dt} {tA : TA} {ma : R (α × σ)} {en : σ → En} (h : Ya P w K W eX tA env ma ea en) {u : β → Ow} (hu : ∀ b, u b = .ins C fs (ef b)) : Yo P w K W eX (tMake C (spI P w K C (RI K fs ea m ef)) [] E tA) env (ma.bind2 fun a v => (m a).nox.bind fun z => .ok (z, v)) u en := by
  cases ma with
  | ok p =>
    obtain ⟨a, v⟩ := p
    show Yo P w K W eX _ env ((m a).nox.bind fun z => .ok (z, v)) u en
    cases e : m a with
    | ok c =>
      show EnO P w K _ env (u c) (en v)
      rw [hu c]
      exact eo_make h ⟨a, rfl, by rw [e]; rfl⟩
    | ex x => trivial
    | no => trivial
  | ex x => exact fun F0 H0 F H σ S Q q => h F0 H0 F H σ S _ q
  | no => trivial
theorem ep_lendI {i : Nat} {t : Option Addr} {C : Addr} {fs : List Str} {ds : List Dt} {te : TE} {d : Dt} (hi : env[i]? = some (.ow t (.ins C fs ds))) (h : Ep P w K te (env.set i (.d (.obj C fs ds))) d) (f : noObj d = true) : Ep P w K te env d := fun F0 H0 F H σ S Q q => by
  obtain ⟨p, o, h1, h2, h3, h4, h5, S'⟩ := S.freeze hi rfl
  obtain ⟨dx, vs, rfl, l, _⟩ := h4
  refine h F0 H0 _ H σ S' _ fun v F' H' k rp => ?_
  exact q v (hide F' p) H' (wk_lend k h2) (rp_hide (k.f p _ upd_same) rp f)
/-- .. lent, what is given holds no object -/
theorem xp_lendI {da : α → Dt} {m : R α} (i : Nat) {t : Option Addr} {C : Addr} {fs : List Str} {ds : List Dt} {te : TE} (hi : env[i]? = some (.ow t (.ins C fs ds))) (h : ∀ eX', Xp P w K W eX' te (env.set i (.d (.obj C fs ds))) m.nox da) (f : ∀ a, noObj (da a) = true) : Xp P w K W eX te env m.nox da := by
  cases m with
  | ok a => exact ep_lendI hi (h eX) (f a)
  | ex x => trivial
  | no => trivial
theorem xo_lstStarL {e : α → Dt} {ta tb : TE} {m : R α} {n : R (List α)} (h : Xp P w K W eX ta env m e) (h2 : Xp P w K W eX tb env n (eL e)) : Xo P w K W eX (tLst (tCons ta (StX.tStar K tb tNil))) env (m.bind fun x => n.bind fun y => R.need ((x :: y).length ≤ 100000) (.ok (x :: y))) (oL e) := by
  cases m with
  | ok x =>
    cases n with
    | ok y =>
      show Xo P w K W eX _ env (R.need _ _) (oL e)
      by_cases hl : (x :: y).length ≤ 100000
      · rw [R.need_pos hl]
        have := ap_cons h (ap_starL h2 ap_nil)
        rw [List.append_nil] at this
        exact po_n (np_lst this (by simpa using hl))
      · rw [R.need, if_neg hl]
        trivial
    | ex x => exact er_lst (era_2 h fun F0 H0 F H σ S Q q => h2 F0 H0 F H σ S _ q)
    | no => trivial
  | ex x => exact er_lst (era_1 h)
  | no => trivial
/-- [..] * k, the items may raise -/
theorem xo_repM {e : α → Dt} {ta tb : TE} {m : R (List α)} {n : R Int} (h : Xo P w K W eX ta env m (oL e)) (hk : Xp P w K W eX tb env n eI) : Xo P w K W eX (tOp rRep ta tb) env (m.bind fun xs => n.bind fun k => repLR xs k) (oL e) := by
  cases m with
  | ok xs => exact xo_rep h hk
  | ex x => exact fun F0 H0 F H σ S Q q => h F0 H0 F H σ S _ q
  | no => trivial
/-- range(x, y, -1), x may raise -/
theorem xi_rngDn1 {ta tb tc : TE} {m : R Int} {y : Int} (h : Xp P w K W eX ta env m eI) (hb : Ep P w K tb env (.int y)) (hc : Ep P w K tc env (.int (-1))) : Xi P w K W eX (iRng3 (tCons ta (tCons tb (tCons tc tNil)))) env (m.bind fun x => rngDnR x y) eI := by
  cases m with
  | ok x => exact xi_rngDn (ma := .ok ()) (a := fun _ => x) (b := fun _ => y) (ap_cons h (ap_cons hb (ap_cons hc ap_nil)))
  | ex x => exact fun F0 H0 F H σ S Q q => (era_1 h) F0 H0 F H σ S _ q
  | no => trivial
theorem noObj_tI {xs : List Int} : noObj (eT eI xs) = true := by
  show noObjL (xs.map eI) = true
  rw [noObjL_all, List.all_map, List.all_eq_true]
  intro x _
  rfl
end
end Mw
set_option maxHeartbeats 1000000
namespace Zt
open PySem Zc
open PySem.Sem (wp)
abbrev n1 (h : Heap) (l : Addr) : Heap := h.push { cls := .type "tuple_iterator", data := .fields #[.ref l, .int 0 0] }
abbrev n2 (h : Heap) (l t : Addr) : Heap := (n1 h l).push { cls := .type "list_iterator", data := .fields #[.ref t, .int 0 0] }
abbrev n3 (h : Heap) (l t : Addr) : Heap := (n2 h l t).push { cls := .type "tuple", data := .seq #[.ref h.objs.size, .ref (n1 h l).objs.size] }
abbrev n4 (h : Heap) (l t : Addr) : Heap := (n3 h l t).push { cls := .type "tuple", data := .seq #[.none, .none] }
abbrev n5 (h : Heap) (l t : Addr) : Heap := (n4 h l t).push { cls := .type "zip", data := .fields #[.none, .bool false, .bool false, .ref (n2 h l t).objs.size, .ref (n3 h l t).objs.size] }
theorem meets_new (l t : Addr) (xs ys : Array Value) : Meets (Builtin.«zip.__new__» ⟨[.type "zip", .ref l, .ref t], []⟩) (fun _ R s => s.heap.IsTuple l xs ∧ s.heap.IsList t ys ∧ R (.ok (.ret (.ref (n4 s.heap l t).objs.size))) { s with heap := n5 s.heap l t }) :=
  .of_wp fun pr wo A R s q => by
    obtain ⟨hp, g, d, tk, os⟩ := s; obtain ⟨q1, q2, q⟩ := q
    have isz := sub_zip
    have L1 : Heap.IsTuple (Shared.heap ⟨hp, g, d, tk, os⟩) l xs := q1
    have T2 : Heap.IsList (Shared.heap ⟨n1 hp l, g, d, tk, os⟩) t ys := Heap.IsList.push q2 _
    wp_walk using wpAny_pyIter_tuple L1, wpAny_pyIter_list T2
    exact ⟨_, rfl, q⟩
theorem call_new {pr : Program} {wo : World} {A : Around} {E : Value → Shared → Prop} {s : Shared} {l t : Addr} {xs ys : Array Value} {Q : Value → Shared → Prop} (q1 : s.heap.IsTuple l xs) (q2 : s.heap.IsList t ys)
    (q : ∀ h', Rdy (s.heap.objs.size + 4) (s.heap.objs.size + 2) (s.heap.objs.size + 3) s.heap.objs.size (s.heap.objs.size + 1) (fun k h => h.IsTupleIter s.heap.objs.size l k ∧ h.IsTuple l xs) (fun k h => h.IsListIter (s.heap.objs.size + 1) t k ∧ h.IsList t ys) 0 0 .none .none h' →
      (∀ a o, s.heap.get? a = some o → h'.get? a = some o) → Q (.ref (s.heap.objs.size + 4)) { s with heap := h' }) : wpAny (model pr wo) A (call (.type "zip") [.ref l, .ref t]) Q E s := by
  refine callType_new F.called_zip (by decide) (F.typeCall_zip_2 _ _) (F.newCall_zip_2 _ _) (fun ob => F.args_object_init_3 ob _ _) F.entry_zip_new (meets_new l t xs ys) ⟨q1, q2, ?_⟩
  have e1 : (n1 s.heap l).objs.size = s.heap.objs.size + 1 := Heap.size_push ..
  have e2 : (n2 s.heap l t).objs.size = s.heap.objs.size + 2 := by rw [Heap.size_push, e1]
  have e3 : (n3 s.heap l t).objs.size = s.heap.objs.size + 3 := by rw [Heap.size_push, e2]
  have e4 : (n4 s.heap l t).objs.size = s.heap.objs.size + 4 := by rw [Heap.size_push, e3]
  have up : ∀ {h : Heap} {o u : Obj} {a : Addr}, h.get? a = some u → (h.push o).get? a = some u := fun e => Heap.get?_push_of_some _ e
  have k5 : (n5 s.heap l t).get? (n4 s.heap l t).objs.size = some _ := Heap.get?_push_size _ rfl
  have k4 : (n5 s.heap l t).get? (n3 s.heap l t).objs.size = some _ := up (Heap.get?_push_size _ rfl)
  have k3 : (n5 s.heap l t).get? (n2 s.heap l t).objs.size = some _ := up (up (Heap.get?_push_size _ rfl))
  have k2 : (n5 s.heap l t).get? (n1 s.heap l).objs.size = some _ := up (up (up (Heap.get?_push_size _ rfl)))
  have k1 : (n5 s.heap l t).get? s.heap.objs.size = some _ := up (up (up (up (Heap.get?_push_size _ rfl))))
  have all : ∀ a o, s.heap.get? a = some o → (n5 s.heap l t).get? a = some o := fun a o e => up (up (up (up (up e))))
  show _ ∧ _
  rw [e2, e3, e4] at k5
  rw [e1, e2] at k3
  rw [e3] at k4
  rw [e1] at k2
  rw [e4]
  refine ⟨⟨_, k5, rfl⟩, q _ ⟨k5, k3, k4, ⟨⟨_, k1, rfl, rfl⟩, ?_⟩, ⟨_, k2, rfl, rfl⟩, ?_⟩ all⟩
  · obtain ⟨o, e, r⟩ := q1
    exact ⟨o, all _ _ e, r⟩
  · obtain ⟨o, e, r⟩ := q2
    exact ⟨o, all _ _ e, r⟩
open PySem.Spec PyProof.Rows L2
/-- the pairs of a list and a tuple -/
def ItzM (K : PySem.W.Frag) (a b : Addr) : It where
  go := fun i H => ∃ (xs ys : List V) (x y : V), SqT K H a xs ∧ SqL K H b ys ∧ xs[i]? = some x ∧ ys[i]? = some y
  yld := fun i H v H' => ∃ T x y, v = .ref T ∧ H T = none ∧ H' = upd H T (.tup [x, y]) ∧ (∀ xs, SqT K H a xs → xs[i]? = some x) ∧ ∀ ys, SqL K H b ys → ys[i]? = some y
  stop := fun i H => ∃ xs ys : List V, SqT K H a xs ∧ SqL K H b ys ∧ (xs.length ≤ i ∨ ys.length ≤ i)
def Stn (z I O c d a b : Addr) (i : Nat) (h : Heap) : Prop := IsZip h z I O .none ∧ IsPair h I (.ref c) (.ref d) ∧ (∃ u v, IsPair h O u v) ∧ h.IsTupleIter c a i ∧ h.IsListIter d b i
theorem five {z I O c d t : Addr} (h : t ∈ [z, I, O, c, d]) : t = z ∨ t = I ∨ t = O ∨ t = c ∨ t = d := by simpa using h
theorem turn_zipM {P : Program} {w : World} {K : PySem.W.Frag} {es : List Expr} {kk : Nat} {tp : Pos} {a b z I O c d : Addr} (D : ZipApart z I O c d a b) : Turn P w K (.Tuple es kk tp) (ItzM K a b) [z, I, O, c, d] z (Stn z I O c d a b) where
  mem := by simp
  obj := by
    rintro i h ⟨q1, q2, ⟨u, v, q3⟩, ⟨o1, e1, _, d1⟩, o2, e2, _, d2⟩ t ht
    rcases five ht with rfl | rfl | rfl | rfl | rfl
    · exact ⟨_, q1, fun v q => nomatch q⟩
    · exact ⟨_, q2, fun v q => nomatch q⟩
    · exact ⟨_, q3, fun v q => nomatch q⟩
    · exact ⟨o1, e1, fun v q => by rw [d1] at q; cases q⟩
    · exact ⟨o2, e2, fun v q => by rw [d2] at q; cases q⟩
  keep := by
    rintro i h h' ⟨q1, q2, ⟨u, v, q3⟩, q4, q5⟩ k
    exact ⟨k z (by simp) _ q1, k I (by simp) _ q2, ⟨u, v, k O (by simp) _ q3⟩, q4.at fun o e => k c (by simp) o e, q5.at fun o e => k d (by simp) o e⟩
  item := by
    rintro X rfl rfl rfl hc i pins s σ H E Iv hf ⟨q1, q2, ⟨u0, v0, q3⟩, q4, q5⟩ ⟨xs, ys, x, y, sx, sy, hx, hy⟩
    obtain ⟨ix, rx, px, _⟩ := Iv.tuple sx
    obtain ⟨iy, ry, py, _⟩ := Iv.list sy
    obtain ⟨ux, hux, rux⟩ := rx.get hx
    obtain ⟨uy, huy, ruy⟩ := ry.get hy
    have zl : z < s.heap.objs.size := Heap.lt_size q1
    refine next_item (curT D.l1i1) (curL D.l2i2) D ⟨q1, q2, q3, ⟨q4, px⟩, ⟨q5, py.isList⟩⟩ (va := ux) (vb := uy) (by simpa using hux) (by simpa using huy) fun h' a1 a2 a3 a4 a5 a6 a7 => ?_
    refine ⟨_, rfl, wpAny_letOwnedTupleGo_zip (s := { s with heap := h' }) a1 fun h'' z2 sb => ?_⟩
    have T2 : h''.get? s.heap.objs.size = some { cls := .type "tuple", data := .seq #[ux, uy] } := (sb.2 _ (Nat.ne_of_gt zl)).trans a5
    have fresh : ObjOk X.prog X.w (upd H s.heap.objs.size (.tup [x, y])) h'' s.heap.objs.size (.tup [x, y]) := ⟨by show 2 ≤ sizeLine; decide, [ux, uy], .cons rux (.cons ruy .nil), ⟨_, T2, rfl, _, rfl⟩⟩
    have Iv2 : Inv X pins σ (upd H s.heap.objs.size (.tup [x, y])) { s with heap := h'' } := Iv.turnedNew (t' := s.toks) (ch := [z, I, O, c, d]) (fun t o ht e => by
      have ne : t ≠ z ∧ t ≠ O ∧ t ≠ c ∧ t ≠ d := ⟨fun q => ht (by simp [q]), fun q => ht (by simp [q]), fun q => ht (by simp [q]), fun q => ht (by simp [q])⟩
      exact (sb.2 t ne.1).trans (a7 t o ne.1 ne.2.1 ne.2.2.1 ne.2.2.2 e)) hf (Nat.le_refl _) fresh
    refine ⟨.ref s.heap.objs.size, _, Iv2, rfl, ⟨_, x, y, rfl, Iv.hok.fresh (Nat.le_refl _), rfl, fun l hl => by rw [Iv.tuple_inj hl sx]; exact hx, fun l hl => by rw [Iv.list_inj hl sy]; exact hy⟩, ⟨z2, ?_, ⟨ux, uy, ?_⟩, ?_, ?_⟩, fun t ht => ?_⟩
    · exact (sb.2 _ D.TIz).trans (a7 _ _ D.TIz D.TITO D.TIi1 D.TIi2 q2)
    · exact (sb.2 _ D.TOz).trans a2
    · exact a3.1.at fun o e => (sb.2 _ D.i1z).trans e
    · exact a4.1.at fun o e => (sb.2 _ D.i2z).trans e
    · have lt : t < s.heap.objs.size := by
        rcases five ht with rfl | rfl | rfl | rfl | rfl
        · exact zl
        · exact Heap.lt_size q2
        · exact Heap.lt_size q3
        · obtain ⟨_, e, _⟩ := q4
          exact Heap.lt_size e
        · obtain ⟨_, e, _⟩ := q5
          exact Heap.lt_size e
      rw [upd_ne (Nat.ne_of_lt lt)]
      exact (hf t ht).1
  done := by
    rintro X rfl rfl rfl hc i pins s σ H E Iv hf ⟨q1, q2, ⟨u0, v0, q3⟩, q4, q5⟩ ⟨xs, ys, sx, sy, he⟩
    obtain ⟨ix, rx, px, _⟩ := Iv.tuple sx
    obtain ⟨iy, ry, py, _⟩ := Iv.list sy
    have l1 := rx.length
    have l2 := ry.length
    refine next_stop (Iv.ok.hd hc) (curT D.l1i1) (curL D.l2i2) D ⟨q1, q2, q3, ⟨q4, px⟩, ⟨q5, py.isList⟩⟩ (he.imp (fun q => by simp; omega) fun q => by simp; omega) fun h' k => ⟨rfl, ?_⟩
    exact Iv.turnedL (t' := s.toks) (ch := [z, I, O, c, d]) (fun t o ht e => k t o (fun q => ht (by simp [q])) (fun q => ht (by simp [q])) (fun q => ht (by simp [q])) (fun q => ht (by simp [q])) e) hf
  self := fun A i s Q E q h => wpAny_pyIter_zip q.1 h
def iZipM (K : PySem.W.Frag) (ta : TA) : TI := fun σ H R => ta σ H fun vs H1 => ∃ a b xs ys, vs = [.ref a, .ref b] ∧ SqT K H1 a xs ∧ SqL K H1 b ys ∧ R (ItzM K a b) H1
theorem pi_zipM {X : Cx} {e e2 : Expr} {ta : TA} {p pos tp : Pos} {es : List Expr} {kk : Nat} (hg : Gl X "zip") (hm : X.mg "zip" = none) (ha : PA X [e, e2] ta)
    (na : starEach [e, e2] X.env = (false, eval e X.env) :: starEach [e2] X.env := by rfl) (nb : (backTo pos (starEach [e2] X.env)).any (·.1) = false := by rfl) : PI X (.Tuple es kk tp) (.Call (.Name "zip" p) [e, e2] [] pos) (iZipM X.K ta) := by
  refine ⟨fun pins s σ H R I h => Call_ (ld_blt I hg hm PyProof.Rows.boot_zip (PyProof.Rows.callWith_type1 (thn (ha.run pos pins s σ H _ I h) fun us s1 ⟨vs, H1, I1, r1, a, b, xs, ys, ev, sx, sy, q⟩ => ?_) na nb))⟩
  subst ev
  obtain ⟨_, _, rfl, ra, r1⟩ : ∃ u us', us = u :: us' ∧ RelV (.ref a) u ∧ Vals [.ref b] us' := by cases r1 with | cons r rr => exact ⟨_, _, rfl, r, rr⟩
  obtain ⟨_, rfl, rb⟩ := r1.one
  cases ra
  cases rb
  obtain ⟨ix, rx, px, _⟩ := I1.tuple sx
  obtain ⟨iy, ry, py, _⟩ := I1.list sy
  obtain ⟨o2, ho2, _⟩ := id px
  refine call_new (show s1.heap.IsTuple a ix.toArray from px) py.isList fun h' R k => wpAny_pyIter_zip R.z ?_
  have I2 : Inv X pins σ H1 { s1 with heap := h' } := I1.kept (t' := s1.toks) k
  refine ⟨s1.heap.objs.size + 4, [s1.heap.objs.size + 4, s1.heap.objs.size + 2, s1.heap.objs.size + 3, s1.heap.objs.size, s1.heap.objs.size + 1], _, _, H1, rfl, I2, turn_zipM (PySem.W.ktu_apart s1.heap.objs.size a b (Heap.lt_size ho2) py.lt), ⟨R.z, R.i, ⟨_, _, R.o⟩, R.a.1, R.b.1⟩, fun t ht => ?_, q⟩
  have le : s1.heap.objs.size ≤ t := by
    rcases five ht with rfl | rfl | rfl | rfl | rfl
    · exact Nat.le_add_right _ _
    · exact Nat.le_add_right _ _
    · exact Nat.le_add_right _ _
    · exact Nat.le_refl _
    · exact Nat.le_add_right _ _
  exact I1.fpOk le (I1.hok.fresh le)
theorem walk_zipM {K : PySem.W.Frag} {a b : Addr} {xs ys : List V} {n : Nat} (hn : n = min xs.length ys.length) : Walk (ItzM K a b) n (fun H => SqT K H a xs ∧ SqL K H b ys) (YPair (fun i => xs[i]?) (fun i => ys[i]?)) := by
  subst hn
  refine ⟨fun i _ hi q => ⟨xs, ys, xs[i]'(by omega), ys[i]'(by omega), q.1, q.2, by simp, by simp⟩, fun _ q => ⟨xs, ys, q.1, q.2, by omega⟩, fun i H v H' _ q y => ?_⟩
  obtain ⟨T, x, z, e1, e2, e3, e4, e5⟩ := y
  exact ⟨T, x, z, e1, e2, e3, e4 xs q.1, e5 ys q.2⟩
end Zt
namespace Mw
open PySem PySem.Spec PyProof.Rows L2 Qw
open Evl hiding ea_cons
open Pw (Dt Rp RpL Wk)
section
variable {P : Program} {w : World} {K : PySem.W.Frag} {W : WX} {eX : En} {α β : Type} {env : En} {ta tb : TE}
theorem xi_zipN {e1 : α → Dt} {e2 : β → Dt} {m : R (List α)} {n : R (List β)} (h : Xp P w K W eX ta env m (eT e1)) (h2 : Xp P w K W eX tb env n (eL e2)) : Xi P w K W eX (Zt.iZipM K (tCons ta (tCons tb tNil))) env (m.bind fun xs => n.bind fun ys => .ok (xs.zip ys)) (eP2 e1 e2) := by
  cases m with
  | ok xs =>
    cases n with
    | ok ys =>
      refine fun F0 H0 F H σ S R k => h F0 H0 F H σ S _ fun v F1 H1 k1 r => h2 F0 H0 F1 H1 σ (S.wk k1) _ fun v2 F2 H2 k2 r2 => ?_
      obtain ⟨a, us, rfl, g1, g2⟩ := r
      obtain ⟨b, vs, rfl, g3, g4⟩ := r2
      have q1 := g2.mono k2.f
      have l1 := g2.length
      have l2 := g4.length
      rw [List.length_map] at l1 l2
      refine ⟨a, b, us, vs, rfl, ex_t (k1.s.trans k2.h) g1, ex_l k2.s g3, k _ F2 H2 (k1.trans k2) (wl_pair (n := min us.length vs.length) (by rw [List.length_map, List.length_zip, l1, l2]) (Zt.walk_zipM rfl) (fun H e => ⟨ex_t (k2.f.trans e) g1, ex_l e g3⟩) fun i x y hi hx hy => zip_at q1 g4 i x y hx hy)⟩
    | ex x => exact fun F0 H0 F H σ S Q q => h F0 H0 F H σ S _ fun v F1 H1 k _ => h2 F0 H0 F1 H1 σ (S.wk k) _ fun od F2 H2 e => q od F2 H2 (k.f.trans e)
    | no => trivial
  | ex x => exact fun F0 H0 F H σ S Q q => h F0 H0 F H σ S _ q
  | no => trivial
end
end Mw
set_option maxHeartbeats 1000000
namespace CC
open PySem PySem.Spec PyProof.Rows L2 Qw Mw RZ
open Evl hiding ea_cons
open Pw (Dt Rp RpL Wk R2d R1d RLd RLn Kq KqL spX2 Xm Xm0 cr_int cr_min2 cr_max2 cr_list cr_tuple rTupS cr_len pe_globI pe_globS pe_globR pe_tyname)
structure Txt (K : PySem.W.Frag) (mg : Str → Option Value) : Prop where
  f_all : mg "all" = none
  f_bool : mg "bool" = none
  f_int : mg "int" = none
  f_isinstance : mg "isinstance" = none
  f_len : mg "len" = none
  f_list : mg "list" = none
  f_max : mg "max" = none
  f_range : mg "range" = none
  f_reversed : mg "reversed" = none
  f_set : mg "set" = none
  f_str : mg "str" = none
  f_sum : mg "sum" = none
  f_tuple : mg "tuple" = none
  f_zip : mg "zip" = none
  g_MOST_PATTERNS : ∃ t, mg "MOST_PATTERNS" = some (.int 1000 t)
  k_Tester : Cls K (He.ga K "Tester")
  a_Tester : ∀ f ∈ (["circuit", "version", "chains", "held"] : List Str), NoAttr K (He.ga K "Tester") f
  g_MOST_NAME : ∃ t, mg "MOST_NAME" = some (.int 12 t)
  g_MOST_PINS : ∃ t, mg "MOST_PINS" = some (.int 4 t)
  g_MOST_LINES : ∃ t, mg "MOST_LINES" = some (.int 400 t)
  g_MOST_SOURCES : ∃ t, mg "MOST_SOURCES" = some (.int 40 t)
  g__LETTERS : ∃ t, mg "_LETTERS" = some (.str "abcdefghijklmnopqrstuvwxyz" t)
  g__CHARACTERS : ∃ t, mg "_CHARACTERS" = some (.str "abcdefghijklmnopqrstuvwxyz0123456789_" t)
  g_KINDS : mg "KINDS" = some (.ref (He.ga K "KINDS"))
  t_KINDS : ∀ H, SqT K H (He.ga K "KINDS") (KIN.map V.str)
  k_Circuit : Cls K (He.ga K "Circuit")
  a_Circuit : ∀ f ∈ (["inputs", "registers", "gates", "outputs", "gate_of", "order"] : List Str), NoAttr K (He.ga K "Circuit") f
  c_BadCircuit : mg "BadCircuit" = some (.ref (He.ga K "BadCircuit"))
  x_BadCircuit : XfC K (He.ga K "BadCircuit")
  n_reason : PySem.W.findIn K (.ref (He.ga K "BadCircuit")) "reason" = some none
  n_name : PySem.W.findIn K (.ref (He.ga K "BadCircuit")) "name" = some none
  e_BadCircuit : PySem.W.exmOne K (.ref (He.ga K "BadCircuit")) (.ref (He.ga K "BadCircuit")) = some true
  g_CONTRARY : mg "CONTRARY" = some (.ref (He.ga K "CONTRARY"))
  t_CONTRARY : ∀ H, SqT K H (He.ga K "CONTRARY") (G_CONTRARY.map V.str)
end CC
set_option maxHeartbeats 400000
namespace CC
open PySem PySem.Spec PyProof.Rows L2 Qw
open Evl hiding ea_cons
open Pw (Dt Rp RpL Wk R2d R1d RLd RLn Kq KqL truD flatD fl py pyL rangeD charsD spX2 Xm Xm0 tyD isI isB isS isTp isL rl_isInt rl_isBool rl_isStr rl_isTup rl_isList rl_int rl_max2 rl_min2 rl_len rl_lenT rl_tup rl_tupT rl_lenS rl_all rl_any rn_list rn_listT r2_I0 r2_B0 r2_eqI r2_neI r2_eqS r2_neS r2_eq r2_ne r2_I r2_inS r2_niS r2_in r2_inT r2_ixL r2_ixT r2_ixS r2_addS r2_eqD r2_neD r2_ixM r1_U ixN_at itemD cr_int cr_min2 cr_max2 cr_list cr_tuple cr_len pe_globI pe_globS pe_globR pe_tyname rTupS rInt1 rMin2)
local macro_rules | `(tactic| walk_at "side") => `(tactic| first
  | decide | omega | assumption | (show (0 : Int) < _; omega) | exact (show CDiv _ _ from ⟨by omega, by omega⟩) | exact (show CMul _ _ from Or.inr ⟨by omega, by omega⟩) | exact (show CMul _ _ from Or.inl ⟨by omega, by omega⟩) | exact (show CPow _ _ from ⟨by decide, by decide, by decide⟩))
local macro_rules | `(tactic| walk_at "op") => `(tactic| first
  | exact r2_I0 | exact r2_B0 | exact r2_eqI | exact r2_neI | exact r2_eqS | exact r2_neS
  | exact r2_eq rfl rfl rfl | exact r2_ne rfl rfl rfl
  | (refine' r2_I ?_; walk_at "side") | exact r2_inS | exact r2_niS)
local macro_rules | `(tactic| walk_at "rl") => `(tactic| first
  | exact rl_int | exact rl_max2 | exact rl_min2 | exact rl_len | exact rl_lenT | exact rl_isInt (by first | rfl | assumption) | exact rl_isBool (by first | rfl | assumption) | exact rl_isStr (by first | rfl | assumption) | exact rl_isTup (by first | rfl | assumption) | exact rl_isList (by first | rfl | assumption) | exact rl_tup | exact rl_tupT | (refine' rl_lenS ?_; walk_at "side"))
local macro_rules | `(tactic| walk_at "ap") => `(tactic| first
  | exact ap_nil
  | (refine' ap_cons ?eah ?eat; (case eah => walk_at "ep"); (case eat => walk_at "ap")))
local macro_rules | `(tactic| walk_at "ep") => `(tactic| first
  | exact ep_int | exact ep_bl | exact ep_str | exact ep_non | exact ep_ty | exact ep_var
  | (refine' ep_op ?eva ?evb ?evc; (case eva => walk_at "ep"); (case evb => walk_at "ep"); (case evc => walk_at "op"))
  | (refine' ep_cb ?evd ?eve; (case evd => walk_at "ap"); (case eve => walk_at "rl"))
  | (refine' ep_un ?evf r1_U; (case evf => walk_at "ep"))
  | (refine' ep_tup ?evg ?evi; (case evg => walk_at "ap"); (case evi => exact Nat.le_of_ble_eq_true rfl))
  | (refine' ep_lst ?evh ?evj; (case evh => walk_at "ap"); (case evj => exact Nat.le_of_ble_eq_true rfl))
  | assumption)
local macro_rules | `(tactic| walk_at "ee") => `(tactic| (refine' ee_p ?eep; (case eep => walk_at "ep")))
local macro_rules | `(tactic| walk_at "te") => `(tactic| (refine' te_p ?tep; (case tep => walk_at "tp")))
local macro_rules | `(tactic| walk_at "tp") => `(tactic| first
  | (refine' tp_test ?tea; (case tea => walk_at "ep"))
  | (refine' tp_B ?teb; (case teb => walk_at "ep"))
  | (refine' tp_not ?tec; (case tec => walk_at "tp"))
  | (refine' tp_or ?ted ?tee; (case ted => walk_at "tp"); (case tee => intro _; walk_at "tp"))
  | (refine' tp_and ?tef ?teg; (case tef => walk_at "tp"); (case teg => intro _; walk_at "tp"))
  | assumption)
section
variable {P : Program} {w : World} {K : PySem.W.Frag} {mg : Str → Option Value} {base : Heap}
def LET : Str := "abcdefghijklmnopqrstuvwxyz"
def CHR : Str := "abcdefghijklmnopqrstuvwxyz0123456789_"
def nameB (x : Str) : Bool := match x.cps.toList with
  | [] => false
  | c :: _ => decide (x.length ≤ 12) && (decide (c ∈ LET.cps.toList) && x.cps.toList.all fun c => decide (c ∈ CHR.cps.toList))
def okS : Dt → Bool
  | .str x => decide (x.length ≤ 40000)
  | d => (tyD d).isSome
theorem okS_ty {v : Dt} (h : okS v = true) : (tyD v).isSome = true := by
  cases v <;> first | exact h | rfl
def isName : Dt → Bool
  | .str x => nameB x
  | _ => false
def R_is_name (ds : List Dt) (r : Rs) : Prop := ∃ v, ds = [v] ∧ okS v = true ∧ r = .d (.bl (isName v))
theorem l_is_name (ds : List Dt) (r : Rs) (h : R_is_name ds r) : ds.length = 1 := by
  obtain ⟨v, rfl, _⟩ := h
  rfl
theorem len_cps (x : Str) : x.length = x.cps.toList.length := by simp [Str.length]
theorem str_empty {x : Str} (h : x.cps.toList = []) : x = "" := by
  obtain ⟨c⟩ := x
  have : c = #[] := by
    cases c
    simp at h
    rw [h]
  rw [this]
  rfl
theorem at0 {x : Str} {c : Nat} {r : List Nat} (h : x.cps.toList = c :: r) : atI x.cps.toList 0 = some c := by
  rw [h]
  have e := ixN_nat (n := (c :: r).length) (j := 0) (by simp)
  show (ixN (c :: r).length 0).bind _ = _
  rw [show (0 : Int) = ((0 : Nat) : Int) from rfl, e]
  rfl
abbrev N_is_name : List Str := ["value", "sign"]
theorem sc_is_name : FnScope N_is_name ["value"] (defScope s_is_name) := ⟨rfl, rfl, rfl, by decide +kernel, rfl, by decide +kernel, by decide +kernel⟩
theorem k_is_name (T : Txt K mg) (D : Dx K mg "is_name" ["value"] s_is_name)  : Fx P w K mg base 1 "is_name" ["value"] (spR P w K R_is_name) := by
  refine Fx.of D sc_is_name (l_is_name) fun f cdv A outer s H E hr => ?_
  refine ⟨_, (pss_cons (ps_if (PW.pt (pw_or (pt_not (pt_val (pe_callB call_isi (by rfl) T.f_isinstance (by decide +kernel) (pa_cons (pv 0) (pa_cons (pe_tyname (n := "str") T.f_str) pa_nil))))) (pw_or1 (pt_cmpR op_eq (pv 0) pe_str (nomark _))))) (pss_one (ps_ret pe_bl)) pss_nil)
      (pss_cons (ps_if (PW.pt (pw_or (pt_cmpR op_gt (pe_callB call_len_str (by rfl) T.f_len PySem.boot_len (pa_cons (pv 0) pa_nil)) (pe_globI T.g_MOST_NAME) (nomark _)) (pw_or1 (pt_cmpR op_notInS (pe_ix ix_str (pv 0) pe_int (fun _ _ => rfl)) (pe_globS T.g__LETTERS) rfl)))) (pss_one (ps_ret pe_bl)) pss_nil)
      (pss_one (ps_ret (pe_callB (cr_all rfl) (by rfl) T.f_all (by decide +kernel) (pa_cons (pe_lc (own := [("sign", 1)]) (g := gName 1) (tt := tYes) rfl sc_is_name.nd (pi_str (pv 0)) (blkOk_by (N := N_is_name) (sc := defScope s_is_name) (by decide +kernel)) (fun _ _ _ _ _ => (pgn (i := 1) sc_is_name.nd)) (fun _ _ _ _ _ => pts_nil) (fun _ _ _ _ _ => (pe_cmpR op_inS (pv 1) (pe_globS T.g__CHARACTERS) rfl))) pa_nil)))))), ?_⟩
  rintro ds r ⟨v, rfl, hv, rfl⟩
  left
  show Se P w K _ [.d v, .u] _
  have ht := okS_ty hv
  cases hT : isS v with
  | false =>
    refine se_when (b := true) (te_p (tp_or (a := true) (b := true) (tp_is (tp_not (a := isS v) (by walk_at "tp")) (by rw [hT]; rfl)) (fun z => nomatch z))) (fun _ => ?_) (fun z => nomatch z)
    refine se_seqF (se_ret (ee_p (ep_is ep_bl ?_)))
    cases v <;> first | rfl | cases hT
  | true =>
    cases v <;> first | cases hT | skip
    rename_i x
    have hl : x.length ≤ 40000 := of_decide_eq_true hv
    refine se_when (b := decide (x = "")) (te_p (tp_is (tp_or (tp_not (by walk_at "tp")) (fun _ => by walk_at "tp")) rfl)) (fun hb => ?_) (fun hb => ?_)
    · refine se_seqF (se_ret (ee_p (ep_is ep_bl ?_)))
      have := of_decide_eq_true hb
      subst this
      rfl
    · cases hx : x.cps.toList with
      | nil =>
        rw [str_empty hx] at hb
        cases hb
      | cons c r =>
        refine se_when (b := decide ((12 : Int) < x.length) || !decide (c ∈ LET.cps.toList)) (te_p (tp_or (by walk_at "tp") fun _ => tp_test (ep_op (ep_op ep_var ep_int (r2_ixS (by omega) (at0 hx))) ep_str r2_niS))) (fun hb => ?_) (fun hb => ?_)
        · refine se_seqF (se_ret (ee_p (ep_is ep_bl ?_)))
          show _ = Dt.bl (nameB x)
          unfold nameB
          rw [hx]
          simp only [Bool.or_eq_true, decide_eq_true_eq, Bool.not_eq_true', decide_eq_false_iff_not] at hb
          congr 1
          symm
          simp only [Bool.and_eq_false_iff, decide_eq_false_iff_not]
          rcases hb with hb | hb
          · left; omega
          · right; left; exact hb
        · refine se_ret (ee_p (ep_is (ep_cb (ap_cons (ep_is (ep_new (np_mapT x.cps.toList (fun c => Dt.str ⟨#[c]⟩) (ip_str ep_var) (by rw [← len_cps]; exact hl) (fun c => .bl (decide (c ∈ CHR.cps.toList))) fun i c hc => ep_op ep_var ep_str r2_inS)) (e := .lst ((x.cps.toList.map fun c => decide (c ∈ CHR.cps.toList)).map .bl)) (by rw [List.map_map]; rfl)) ap_nil) rl_all) ?_))
          simp only [Bool.or_eq_false_iff, decide_eq_false_iff_not, Bool.not_eq_false', decide_eq_true_eq] at hb
          show _ = Dt.bl (nameB x)
          unfold nameB
          rw [hx]
          simp only [List.all_map]
          have h1 : decide (x.length ≤ 12) = true := decide_eq_true (by omega)
          rw [h1, decide_eq_true hb.2]
          simp
def mayHave (k : Str) (n : Int) : Bool := if k = "low" ∨ k = "high" then decide (n = 0) else if k = "not" ∨ k = "buf" then decide (n = 1) else decide (1 ≤ n) && decide (n ≤ 4)
def R_may_have (ds : List Dt) (r : Rs) : Prop := ∃ k n, ds = [.str k, .int n] ∧ r = .d (.bl (mayHave k n))
theorem l_may_have (ds : List Dt) (r : Rs) (h : R_may_have ds r) : ds.length = 2 := by
  obtain ⟨k, n, rfl, _⟩ := h
  rfl
theorem in2 (k a b : Str) : inV (V.str k) [V.str a, V.str b] = decide (k = a ∨ k = b) := by
  unfold inV
  simp only [List.any_cons, List.any_nil, Bool.or_false]
  have h : ∀ a : Str, eqV (V.str a) (V.str k) = decide (k = a) := fun a => by
    simp only [eqV]
    by_cases e : k = a
    · subst e; simp
    · simp [e, Ne.symm e]
  rw [h, h]
  simp
abbrev N_may_have : List Str := ["kind", "count"]
theorem sc_may_have : FnScope N_may_have ["kind", "count"] (defScope s_may_have) := ⟨rfl, rfl, rfl, by decide +kernel, rfl, by decide +kernel, by decide +kernel⟩
theorem k_may_have (T : Txt K mg) (D : Dx K mg "_may_have" ["kind", "count"] s_may_have)  : Fx P w K mg base 1 "_may_have" ["kind", "count"] (spR P w K R_may_have) := by
  refine Fx.of D sc_may_have (l_may_have) fun f cdv A outer s H E hr => ?_
  refine ⟨_, (pss_cons (ps_if (pt_cmpR op_in_seq (pv 0) (pe_tup (pa_cons pe_str (pa_cons pe_str pa_nil))) rfl) (pss_one (ps_ret (pe_cmpR op_eq (pv 1) pe_int (nomark _)))) pss_nil)
      (pss_cons (ps_if (pt_cmpR op_in_seq (pv 0) (pe_tup (pa_cons pe_str (pa_cons pe_str pa_nil))) rfl) (pss_one (ps_ret (pe_cmpR op_eq (pv 1) pe_int (nomark _)))) pss_nil)
      (pss_one (ps_ret (pe_chain op_le op_le pe_int (pv 1) (pe_globI T.g_MOST_PINS)))))), ?_⟩
  rintro ds r ⟨k, n, rfl, rfl⟩
  left
  show Se P w K _ [.d (.str k), .d (.int n)] _
  have hin : ∀ {env : En} (a b : Str), env[0]? = some (.d (.str k)) → Tp P w K (tTest (tOp (rIn K false) (tVar 0) (tTup (tCons (tC (.str a)) (tCons (tC (.str b)) tNil))))) env (decide (k = a ∨ k = b)) := fun a b h0 =>
    tp_is (tp_test (ep_op (ep_var h0) (ep_tup (ap_cons ep_str (ap_cons ep_str ap_nil)) (Nat.le_of_ble_eq_true rfl)) (r2_inT rfl rfl rfl rfl))) (in2 k a b)
  refine se_when (te_p (hin "low" "high" rfl)) (fun hb => ?_) (fun hb => ?_)
  · refine se_seqF (se_ret (ee_p (ep_is (by walk_at "ep") ?_)))
    unfold mayHave
    rw [if_pos (of_decide_eq_true hb)]
  · refine se_when (te_p (hin "not" "buf" rfl)) (fun hb2 => ?_) (fun hb2 => ?_)
    · refine se_seqF (se_ret (ee_p (ep_is (by walk_at "ep") ?_)))
      unfold mayHave
      rw [if_neg (of_decide_eq_false hb), if_pos (of_decide_eq_true hb2)]
    · refine se_ret (ee_p (ep_is (ep_chain ep_int ep_var r2_B0 (fun _ => ep_int) fun _ => r2_B0) ?_))
      unfold mayHave
      rw [if_neg (of_decide_eq_false hb), if_neg (of_decide_eq_false hb2)]
def R_are_names (ds : List Dt) (r : Rs) : Prop := ∃ xs, (ds = [.tup xs] ∨ ds = [.lst xs]) ∧ xs.length ≤ 40000 ∧ xs.all okS = true ∧ r = .d (.bl (xs.all isName))
theorem l_are_names (ds : List Dt) (r : Rs) (h : R_are_names ds r) : ds.length = 1 := by
  obtain ⟨xs, rfl | rfl, _⟩ := h <;> rfl
abbrev N_are_names : List Str := ["items", "item"]
theorem sc_are_names : FnScope N_are_names ["items"] (defScope s_are_names) := ⟨rfl, rfl, rfl, by decide +kernel, rfl, by decide +kernel, by decide +kernel⟩
theorem k_are_names (T : Txt K mg) (D : Dx K mg "_are_names" ["items"] s_are_names)  (G_is_name : Fx P w K mg base 1 "is_name" ["value"] (spR P w K R_is_name)) : Fx P w K mg base 2 "_are_names" ["items"] (spR P w K R_are_names) := by
  refine Fx.of D sc_are_names (l_are_names) fun f cdv A outer s H E hr => ?_
  refine ⟨_, (pss_one (ps_ret (pe_callB (cr_all rfl) (by rfl) T.f_all (by decide +kernel) (pa_cons (pe_lc (own := [("item", 1)]) (g := gName 1) (tt := tYes) rfl sc_are_names.nd (pi_seq (pv 0)) (blkOk_by (N := N_are_names) (sc := defScope s_are_names) (by decide +kernel)) (fun _ _ _ _ _ => (pgn (i := 1) sc_are_names.nd)) (fun _ _ _ _ _ => pts_nil) (fun _ _ _ _ _ => (pe_fx G_is_name (hr.mono (by decide)) (pa_cons (pv 1) pa_nil)))) pa_nil)))), ?_⟩
  rintro ds r ⟨xs, h, hl, ho, rfl⟩
  left
  obtain ⟨v, rfl, hI⟩ : ∃ v, ds = [v] ∧ Ip P w K (iSeq K (tVar 0)) [.d v, .u] xs := by
    rcases h with rfl | rfl
    · exact ⟨_, rfl, ip_seqT ep_var⟩
    · exact ⟨_, rfl, ip_seqL ep_var⟩
  exact se_ret (ee_p (ep_is (ep_cb (ap_cons (ep_is (ep_new (np_map hI hl (fun d => .bl (isName d)) fun d hd => ep_call (ap_cons ep_var ap_nil) ⟨d, rfl, List.all_eq_true.mp ho d hd, rfl⟩)) (e := .lst ((xs.map isName).map .bl)) (by rw [List.map_map]; rfl)) ap_nil) rl_all) (by rw [List.all_map]; rfl)))
def isReg : Dt → Bool
  | .tup xs => decide (xs.length = 2) && xs.all isName
  | _ => false
def okR : Dt → Bool
  | .tup xs => decide (xs.length ≤ 40000) && xs.all okS
  | d => (tyD d).isSome
theorem okR_ty {v : Dt} (h : okR v = true) : (tyD v).isSome = true := by
  cases v <;> first | exact h | rfl
def R_is_register (ds : List Dt) (r : Rs) : Prop := ∃ v, ds = [v] ∧ okR v = true ∧ r = .d (.bl (isReg v))
theorem l_is_register (ds : List Dt) (r : Rs) (h : R_is_register ds r) : ds.length = 1 := by
  obtain ⟨xs, rfl, _⟩ := h
  rfl
abbrev N_is_register : List Str := ["value"]
theorem sc_is_register : FnScope N_is_register ["value"] (defScope s_is_register) := ⟨rfl, rfl, rfl, by decide +kernel, rfl, by decide +kernel, by decide +kernel⟩
theorem k_is_register (T : Txt K mg) (D : Dx K mg "_is_register" ["value"] s_is_register)  (G__are_names : Fx P w K mg base 2 "_are_names" ["items"] (spR P w K R_are_names)) : Fx P w K mg base 3 "_is_register" ["value"] (spR P w K R_is_register) := by
  refine Fx.of D sc_is_register (l_is_register) fun f cdv A outer s H E hr => ?_
  refine ⟨_, (pss_one (ps_ret (pe_and (pe_callB call_isi (by rfl) T.f_isinstance (by decide +kernel) (pa_cons (pv 0) (pa_cons (pe_tyname (n := "tuple") T.f_tuple) pa_nil))) (pe_and (pe_cmpR op_eq (pe_callB cr_len (by rfl) T.f_len PySem.boot_len (pa_cons (pv 0) pa_nil)) pe_int (nomark _)) (pe_one (pe_fx G__are_names (hr.mono (by decide)) (pa_cons (pv 0) pa_nil))))))), ?_⟩
  rintro ds r ⟨v, rfl, ho, rfl⟩
  left
  show Se P w K _ [.d v] _
  have ht := okR_ty ho
  refine se_ret (ee_p ?_)
  cases hT : isTp v with
  | false =>
    refine ep_is (ep_and (a := false) (b := true) (ep_is (by walk_at "ep") (by rw [hT])) (fun z => nomatch z)) ?_
    cases v <;> first | rfl | cases hT
  | true =>
    cases v <;> first | cases hT | skip
    rename_i xs
    obtain ⟨h1, h2⟩ := Bool.and_eq_true_iff.mp ho
    refine ep_is (ep_and (a := true) (ep_is (by walk_at "ep") rfl) fun _ => ep_and (by walk_at "ep") fun _ => ep_call (ap_cons ep_var ap_nil) ⟨xs, .inl rfl, of_decide_eq_true h1, h2, rfl⟩) ?_
    show Dt.bl (true && (decide ((xs.length : Int) = 2) && xs.all isName)) = Dt.bl (decide (xs.length = 2) && xs.all isName)
    rw [Bool.true_and]
    congr 2
    exact decide_eq_decide.mpr (by omega)
end
end CC
set_option maxHeartbeats 400000
namespace CC
open PySem PySem.Spec PyProof.Rows L2 Qw
open Evl hiding ea_cons
open Pw (Dt Rp RpL Wk R2d R1d RLd RLn Kq KqL truD flatD fl py pyL rangeD charsD spX2 Xm Xm0 tyD isI isB isS isTp isL rl_isInt rl_isBool rl_isStr rl_isTup rl_isList rl_int rl_max2 rl_min2 rl_len rl_lenT rl_tup rl_tupT rl_lenS rl_all rl_any rn_list rn_listT r2_I0 r2_B0 r2_eqI r2_neI r2_eqS r2_neS r2_eq r2_ne r2_I r2_inS r2_niS r2_in r2_inT r2_ixL r2_ixT r2_ixS r2_addS r2_eqD r2_neD r2_ixM r1_U ixN_at itemD cr_int cr_min2 cr_max2 cr_list cr_tuple cr_len pe_globI pe_globS pe_globR pe_tyname rTupS rInt1 rMin2)
local macro_rules | `(tactic| walk_at "side") => `(tactic| first
  | decide | omega | assumption | (show (0 : Int) < _; omega) | exact (show CDiv _ _ from ⟨by omega, by omega⟩) | exact (show CMul _ _ from Or.inr ⟨by omega, by omega⟩) | exact (show CMul _ _ from Or.inl ⟨by omega, by omega⟩) | exact (show CPow _ _ from ⟨by decide, by decide, by decide⟩))
local macro_rules | `(tactic| walk_at "op") => `(tactic| first
  | exact r2_I0 | exact r2_B0 | exact r2_eqI | exact r2_neI | exact r2_eqS | exact r2_neS
  | exact r2_eq rfl rfl rfl | exact r2_ne rfl rfl rfl
  | (refine' r2_I ?_; walk_at "side") | exact r2_inS | exact r2_niS)
local macro_rules | `(tactic| walk_at "rl") => `(tactic| first
  | exact rl_int | exact rl_max2 | exact rl_min2 | exact rl_len | exact rl_lenT | exact rl_isInt (by first | rfl | assumption) | exact rl_isBool (by first | rfl | assumption) | exact rl_isStr (by first | rfl | assumption) | exact rl_isTup (by first | rfl | assumption) | exact rl_isList (by first | rfl | assumption) | exact rl_tup | exact rl_tupT | (refine' rl_lenS ?_; walk_at "side"))
local macro_rules | `(tactic| walk_at "ap") => `(tactic| first
  | exact ap_nil
  | (refine' ap_cons ?eah ?eat; (case eah => walk_at "ep"); (case eat => walk_at "ap")))
local macro_rules | `(tactic| walk_at "ep") => `(tactic| first
  | exact ep_int | exact ep_bl | exact ep_str | exact ep_non | exact ep_ty | exact ep_var
  | (refine' ep_op ?eva ?evb ?evc; (case eva => walk_at "ep"); (case evb => walk_at "ep"); (case evc => walk_at "op"))
  | (refine' ep_cb ?evd ?eve; (case evd => walk_at "ap"); (case eve => walk_at "rl"))
  | (refine' ep_un ?evf r1_U; (case evf => walk_at "ep"))
  | (refine' ep_tup ?evg ?evi; (case evg => walk_at "ap"); (case evi => exact Nat.le_of_ble_eq_true rfl))
  | (refine' ep_lst ?evh ?evj; (case evh => walk_at "ap"); (case evj => exact Nat.le_of_ble_eq_true rfl))
  | assumption)
local macro_rules | `(tactic| walk_at "ee") => `(tactic| (refine' ee_p ?eep; (case eep => walk_at "ep")))
local macro_rules | `(tactic| walk_at "te") => `(tactic| (refine' te_p ?tep; (case tep => walk_at "tp")))
local macro_rules | `(tactic| walk_at "tp") => `(tactic| first
  | (refine' tp_test ?tea; (case tea => walk_at "ep"))
  | (refine' tp_B ?teb; (case teb => walk_at "ep"))
  | (refine' tp_not ?tec; (case tec => walk_at "tp"))
  | (refine' tp_or ?ted ?tee; (case ted => walk_at "tp"); (case tee => intro _; walk_at "tp"))
  | (refine' tp_and ?tef ?teg; (case tef => walk_at "tp"); (case teg => intro _; walk_at "tp"))
  | assumption)
section
variable {P : Program} {w : World} {K : PySem.W.Frag} {mg : Str → Option Value} {base : Heap}
def isGate : Dt → Bool
  | .tup [l, .str k, .tup ps] => decide (k ∈ KIN) && (mayHave k ps.length && (isName l && ps.all isName))
  | _ => false
/-- the third part: a tuple of things that may be asked for names, or what is no tuple -/
def okP : Dt → Bool
  | .tup ps => decide (ps.length ≤ 30000) && ps.all okS
  | d => (tyD d).isSome
def okG : Dt → Bool
  | .tup [l, k, p] => okS l && ((tyD k).isSome && okP p)
  | d => (tyD d).isSome
theorem okG_ty {v : Dt} (h : okG v = true) : (tyD v).isSome = true := by
  unfold okG at h
  split at h
  · rfl
  · exact h
theorem okP_ty {v : Dt} (h : okP v = true) : (tyD v).isSome = true := by
  cases v <;> first | exact h | rfl
def R_is_gate (ds : List Dt) (r : Rs) : Prop := ∃ v, ds = [v] ∧ okG v = true ∧ r = .d (.bl (isGate v))
theorem l_is_gate (ds : List Dt) (r : Rs) (h : R_is_gate ds r) : ds.length = 1 := by
  obtain ⟨xs, rfl, _⟩ := h
  rfl
theorem eqV_str (a k : Str) : eqV (V.str a) (V.str k) = decide (k = a) := by
  simp only [eqV]
  by_cases e : k = a
  · subst e; simp
  · simp [e, Ne.symm e]
theorem inV_strs (k : Str) (xs : List Str) : inV (V.str k) (xs.map V.str) = decide (k ∈ xs) := by
  unfold inV
  induction xs with
  | nil => simp
  | cons a xs ih =>
    rw [List.map_cons, List.any_cons, ih, eqV_str]
    simp
theorem fl_strs (xs : List Str) : (xs.map Dt.str).map Pw.fl = xs.map V.str := by
  rw [List.map_map]
  rfl
theorem flat_strsD (xs : List Str) : (xs.map Dt.str).all flatD = true := by
  simp [flatD]
theorem flat_strsV (xs : List Str) : ((xs.map Dt.str).map Pw.fl).all flatV = true := by
  rw [fl_strs]
  induction xs with
  | nil => rfl
  | cons a xs ih => exact ih
theorem se_no {s2 : TS} {env : En} {b : Bool} (h : b = false) : Se P w K (tSeq (tRet (tC (.bl false))) s2) env (.rt (.bl b)) := se_seqF (se_ret (ee_p (ep_is ep_bl (by rw [h]))))
theorem ep_kinds (T : Txt K mg) {env : En} : Ep P w K (tC (.ref (He.ga K "KINDS"))) env (.tup (KIN.map Dt.str)) := ep_c (rp_wr T.t_KINDS fun F => rpl_strs KIN)
abbrev N_is_gate : List Str := ["value", "line", "kind", "pins"]
theorem sc_is_gate : FnScope N_is_gate ["value"] (defScope s_is_gate) := ⟨rfl, rfl, rfl, by decide +kernel, rfl, by decide +kernel, by decide +kernel⟩
theorem k_is_gate (T : Txt K mg) (D : Dx K mg "is_gate" ["value"] s_is_gate)  (G__may_have : Fx P w K mg base 1 "_may_have" ["kind", "count"] (spR P w K R_may_have)) (G__are_names : Fx P w K mg base 2 "_are_names" ["items"] (spR P w K R_are_names)) : Fx P w K mg base 3 "is_gate" ["value"] (spR P w K R_is_gate) := by
  refine Fx.of D sc_is_gate (l_is_gate) fun f cdv A outer s H E hr => ?_
  refine ⟨_, (pss_cons (ps_if (PW.pt (pw_or (pt_not (pt_val (pe_callB call_isi (by rfl) T.f_isinstance (by decide +kernel) (pa_cons (pv 0) (pa_cons (pe_tyname (n := "tuple") T.f_tuple) pa_nil))))) (pw_or1 (pt_cmpR op_ne (pe_callB cr_len (by rfl) T.f_len PySem.boot_len (pa_cons (pv 0) pa_nil)) pe_int (nomark _))))) (pss_one (ps_ret pe_bl)) pss_nil)
      (pss_cons (ps_asg (pv 0) (pg_tup rfl (pgs_cons (pgn (i := 1) sc_is_gate.nd) (pgs_cons (pgn (i := 2) sc_is_gate.nd) (pgs_cons (pgn (i := 3) sc_is_gate.nd) pgs_nil)))))
      (pss_cons (ps_if (PW.pt (pw_or (pt_not (pt_val (pe_callB call_isi (by rfl) T.f_isinstance (by decide +kernel) (pa_cons (pv 2) (pa_cons (pe_tyname (n := "str") T.f_str) pa_nil))))) (pw_or1 (pt_cmpR op_notIn_seq (pv 2) (pe_globR T.g_KINDS) rfl)))) (pss_one (ps_ret pe_bl)) pss_nil)
      (pss_cons (ps_if (PW.pt (pw_or (pt_not (pt_val (pe_callB call_isi (by rfl) T.f_isinstance (by decide +kernel) (pa_cons (pv 3) (pa_cons (pe_tyname (n := "tuple") T.f_tuple) pa_nil))))) (pw_or1 (pt_not (pt_val (pe_fx G__may_have (hr.mono (by decide)) (pa_cons (pv 2) (pa_cons (pe_callB cr_len (by rfl) T.f_len PySem.boot_len (pa_cons (pv 3) pa_nil)) pa_nil)))))))) (pss_one (ps_ret pe_bl)) pss_nil)
      (pss_one (ps_ret (pe_fx G__are_names (hr.mono (by decide)) (pa_cons (pe_lst (pa_cons (pv 1) (StX.pa_star (pv 3) pa_nil))) pa_nil)))))))), ?_⟩
  rintro ds r ⟨v, rfl, ho, rfl⟩
  left
  show Se P w K _ [.d v, .u, .u, .u] _
  have ht := okG_ty ho
  cases hT : isTp v with
  | false =>
    refine se_when (b := true) (te_p (tp_or (a := true) (b := true) (tp_is (tp_not (a := isTp v) (by walk_at "tp")) (by rw [hT]; rfl)) (fun z => nomatch z))) (fun _ => se_no ?_) (fun z => nomatch z)
    cases v <;> first | rfl | cases hT
  | true =>
    cases v <;> first | cases hT | skip
    rename_i xs
    refine se_when (b := !decide ((xs.length : Int) = 3)) (te_p (tp_is (tp_or (a := false) (tp_is (tp_not (a := true) (by walk_at "tp")) rfl) (fun _ => by walk_at "tp")) rfl)) (fun hb => se_no ?_) (fun hb => ?_)
    · have hb : ¬ (xs.length : Int) = 3 := by simpa using hb
      unfold isGate
      split
      · rename_i e
        cases e
        exact absurd rfl hb
      · rfl
    · have hb : (xs.length : Int) = 3 := by simpa using hb
      obtain ⟨l, k, p, rfl⟩ : ∃ l k p, xs = [l, k, p] := by
        match xs, hb with
        | [l, k, p], _ => exact ⟨l, k, p, rfl⟩
      obtain ⟨hl, hk, hp⟩ : okS l = true ∧ (tyD k).isSome = true ∧ okP p = true := by
        have h := ho
        simp only [okG, Bool.and_eq_true] at h
        exact h
      have hpt := okP_ty hp
      refine se_seq (se_asgG (ee_p ep_var) (ge_tup (gs_cons ge_name (gs_cons ge_name (gs_cons ge_name gs_nil))))) ?_
      show Se P w K _ [.d _, .d l, .d k, .d p] _
      cases hS : isS k with
      | false =>
        refine se_when (b := true) (te_p (tp_or (a := true) (b := true) (tp_is (tp_not (a := isS k) (by walk_at "tp")) (by rw [hS]; rfl)) (fun z => nomatch z))) (fun _ => se_no ?_) (fun z => nomatch z)
        cases k <;> first | rfl | cases hS
      | true =>
        obtain ⟨k, rfl⟩ : ∃ x, k = .str x := by cases k <;> first | exact ⟨_, rfl⟩ | cases hS
        refine se_when (b := !decide (k ∈ KIN)) (te_p (tp_is (tp_or (a := false) (tp_is (tp_not (a := true) (by walk_at "tp")) rfl) (fun _ => tp_is (tp_test (ep_op ep_var (ep_kinds T) (r2_inT (neg := true) rfl (flat_strsD KIN) rfl (flat_strsV KIN)))) (by rw [fl_strs]; exact congrArg (!·) (inV_strs k KIN)))) rfl)) (fun hb => se_no ?_) (fun hb => ?_)
        · have hnk : decide (k ∈ KIN) = false := by simpa using hb
          unfold isGate
          split
          · rename_i e
            cases e
            rw [hnk, Bool.false_and]
          · rfl
        · have hkin : k ∈ KIN := by simpa using hb
          cases hT2 : isTp p with
          | false =>
            refine se_when (b := true) (te_p (tp_or (a := true) (b := true) (tp_is (tp_not (a := isTp p) (by walk_at "tp")) (by rw [hT2]; rfl)) (fun z => nomatch z))) (fun _ => se_no ?_) (fun z => nomatch z)
            cases p <;> first | rfl | cases hT2
          | true =>
            obtain ⟨ps, rfl⟩ : ∃ x, p = .tup x := by cases p <;> first | exact ⟨_, rfl⟩ | cases hT2
            obtain ⟨hp1, hp2⟩ : decide (ps.length ≤ 30000) = true ∧ ps.all okS = true := by
              have h := hp
              simp only [okP, Bool.and_eq_true] at h
              exact h
            have hp1 := of_decide_eq_true hp1
            refine se_when (b := !mayHave k ps.length) (te_p (tp_is (tp_or (a := false) (tp_is (tp_not (a := true) (by walk_at "tp")) rfl) (fun _ => tp_not (tp_B (ep_call (ap_cons ep_var (ap_cons (by walk_at "ep") ap_nil)) ⟨k, ps.length, rfl, rfl⟩)))) rfl)) (fun hb => se_no ?_) (fun hb => ?_)
            · have hb : mayHave k ps.length = false := by simpa using hb
              show (decide (k ∈ KIN) && (mayHave k ps.length && (isName l && ps.all isName))) = false
              rw [hb, Bool.false_and, Bool.and_false]
            · have hb : mayHave k ps.length = true := by simpa using hb
              refine se_ret (ee_p (ep_is (ep_call (ap_cons (ep_lst (ap_cons ep_var (ap_starT ep_var ap_nil)) (by simp; omega)) ap_nil) ⟨l :: (ps ++ []), .inr rfl, by simp; omega, by simp [hl, hp2], rfl⟩) ?_))
              show _ = Dt.bl (decide (k ∈ KIN) && (mayHave k ps.length && (isName l && ps.all isName)))
              rw [hb, decide_eq_true hkin, List.append_nil, List.all_cons]
              simp
end
end CC
set_option maxHeartbeats 400000
namespace CC
open PySem PySem.Spec PyProof.Rows L2 Qw
open Evl hiding ea_cons
open Pw (Dt Rp RpL Wk R2d R1d RLd RLn Kq KqL truD flatD fl py pyL rangeD charsD spX2 Xm Xm0 tyD isI isB isS isTp isL rl_isInt rl_isBool rl_isStr rl_isTup rl_isList rl_int rl_max2 rl_min2 rl_len rl_lenT rl_tup rl_tupT rl_lenS rl_all rl_any rn_list rn_listT r2_I0 r2_B0 r2_eqI r2_neI r2_eqS r2_neS r2_eq r2_ne r2_I r2_inS r2_niS r2_in r2_inT r2_ixL r2_ixT r2_ixS r2_addS r2_eqD r2_neD r2_ixM r1_U ixN_at itemD cr_int cr_min2 cr_max2 cr_list cr_tuple cr_len pe_globI pe_globS pe_globR pe_tyname rTupS rInt1 rMin2)
local macro_rules | `(tactic| walk_at "side") => `(tactic| first
  | decide | omega | assumption | (show (0 : Int) < _; omega) | exact (show CDiv _ _ from ⟨by omega, by omega⟩) | exact (show CMul _ _ from Or.inr ⟨by omega, by omega⟩) | exact (show CMul _ _ from Or.inl ⟨by omega, by omega⟩) | exact (show CPow _ _ from ⟨by decide, by decide, by decide⟩))
local macro_rules | `(tactic| walk_at "op") => `(tactic| first
  | exact r2_I0 | exact r2_B0 | exact r2_eqI | exact r2_neI | exact r2_eqS | exact r2_neS
  | exact r2_eq rfl rfl rfl | exact r2_ne rfl rfl rfl
  | (refine' r2_I ?_; walk_at "side") | exact r2_inS | exact r2_niS)
local macro_rules | `(tactic| walk_at "rl") => `(tactic| first
  | exact rl_int | exact rl_max2 | exact rl_min2 | exact rl_len | exact rl_lenT | exact rl_isInt (by first | rfl | assumption) | exact rl_isBool (by first | rfl | assumption) | exact rl_isStr (by first | rfl | assumption) | exact rl_isTup (by first | rfl | assumption) | exact rl_isList (by first | rfl | assumption) | exact rl_tup | exact rl_tupT | (refine' rl_lenS ?_; walk_at "side"))
local macro_rules | `(tactic| walk_at "ap") => `(tactic| first
  | exact ap_nil
  | (refine' ap_cons ?eah ?eat; (case eah => walk_at "ep"); (case eat => walk_at "ap")))
local macro_rules | `(tactic| walk_at "ep") => `(tactic| first
  | exact ep_int | exact ep_bl | exact ep_str | exact ep_non | exact ep_ty | exact ep_var
  | (refine' ep_op ?eva ?evb ?evc; (case eva => walk_at "ep"); (case evb => walk_at "ep"); (case evc => walk_at "op"))
  | (refine' ep_cb ?evd ?eve; (case evd => walk_at "ap"); (case eve => walk_at "rl"))
  | (refine' ep_un ?evf r1_U; (case evf => walk_at "ep"))
  | (refine' ep_tup ?evg ?evi; (case evg => walk_at "ap"); (case evi => exact Nat.le_of_ble_eq_true rfl))
  | (refine' ep_lst ?evh ?evj; (case evh => walk_at "ap"); (case evj => exact Nat.le_of_ble_eq_true rfl))
  | assumption)
local macro_rules | `(tactic| walk_at "ee") => `(tactic| (refine' ee_p ?eep; (case eep => walk_at "ep")))
local macro_rules | `(tactic| walk_at "te") => `(tactic| (refine' te_p ?tep; (case tep => walk_at "tp")))
local macro_rules | `(tactic| walk_at "tp") => `(tactic| first
  | (refine' tp_test ?tea; (case tea => walk_at "ep"))
  | (refine' tp_B ?teb; (case teb => walk_at "ep"))
  | (refine' tp_not ?tec; (case tec => walk_at "tp"))
  | (refine' tp_or ?ted ?tee; (case ted => walk_at "tp"); (case tee => intro _; walk_at "tp"))
  | (refine' tp_and ?tef ?teg; (case tef => walk_at "tp"); (case teg => intro _; walk_at "tp"))
  | assumption)
section
variable {P : Program} {w : World} {K : PySem.W.Frag} {mg : Str → Option Value} {base : Heap}
def badC (K : PySem.W.Frag) (reason name : Str) : Xn := ⟨He.ga K "BadCircuit", ["name", "reason"], [.str name, .str reason]⟩
def R_check_form (K : PySem.W.Frag) (ds : List Dt) (r : Rs) : Prop := ∃ is rs gs os, ds = [.tup is, .tup rs, .tup gs, .tup os] ∧ (is.length ≤ 40000 ∧ rs.length ≤ 40000 ∧ gs.length ≤ 40000 ∧ os.length ≤ 40000) ∧ (is.all okS = true ∧ rs.all okR = true ∧ gs.all okG = true ∧ os.all okS = true) ∧
  r = if (is.all isName && (os.all isName && (rs.all isReg && gs.all isGate))) = true then .d .non else .x (badC K "form" "")
theorem l_check_form (K : PySem.W.Frag) (ds : List Dt) (r : Rs) (h : R_check_form K ds r) : ds.length = 4 := by
  obtain ⟨is, rs, gs, os, rfl, _⟩ := h
  rfl
theorem does_rz {E : XK} {s : TS} {env : En} {x : Xn} {e : En} (h : Se P w K s env (.rz (fun cls d _ H => E cls d H) x e)) : Does P w K E s env (.x x) := ⟨e, h⟩
theorem does_nx {E : XK} {s : TS} {env : En} {e : En} (h : Se P w K s env (.nx e)) : Does P w K E s env (.d .non) := .inr ⟨rfl, e, h⟩
theorem does_if {E : XK} {s : TS} {env : En} {x : Xn} {e : En} {c : Prop} [Decidable c] (h : Se P w K s env (if c then .nx e else .rz (fun cls d _ H => E cls d H) x e)) : Does P w K E s env (if c then .d .non else .x x) := by
  split at h
  · rename_i z
    rw [if_pos z]
    exact does_nx h
  · rename_i z
    rw [if_neg z]
    exact does_rz h
abbrev N_check_form : List Str := ["inputs", "registers", "gates", "outputs", "item"]
theorem sc_check_form : FnScope N_check_form ["inputs", "registers", "gates", "outputs"] (defScope s_check_form) := ⟨rfl, rfl, rfl, by decide +kernel, rfl, by decide +kernel, by decide +kernel⟩
theorem k_check_form (T : Txt K mg) (D : Dx K mg "_check_form" ["inputs", "registers", "gates", "outputs"] s_check_form)  (G__are_names : Fx P w K mg base 2 "_are_names" ["items"] (spR P w K R_are_names)) (G__is_register : Fx P w K mg base 3 "_is_register" ["value"] (spR P w K R_is_register)) (G_is_gate : Fx P w K mg base 3 "is_gate" ["value"] (spR P w K R_is_gate)) (X_BadCircuit : Xm P w K mg base "BadCircuit" (He.ga K "BadCircuit") (spX2 (He.ga K "BadCircuit") "reason" "name")) : Fx P w K mg base 4 "_check_form" ["inputs", "registers", "gates", "outputs"] (spR P w K (R_check_form K)) := by
  refine Fx.ofX D sc_check_form (l_check_form K) fun f cdv A outer s H E hr tk => ?_
  refine ⟨_, (pss_cons (ps_if (PW.pt (pw_or (pt_not (pt_val (pe_fx G__are_names (hr.mono (by decide)) (pa_cons (pv 0) pa_nil)))) (pw_or1 (pt_not (pt_val (pe_fx G__are_names (hr.mono (by decide)) (pa_cons (pv 3) pa_nil))))))) (pss_one (ps_raise rfl tk (pm_2 X_BadCircuit (hr.mono (by decide)) (pa_cons pe_str (pa_cons pe_str pa_nil))))) pss_nil)
      (pss_cons (ps_if (pt_not (pt_val (pe_callB (cr_all rfl) (by rfl) T.f_all (by decide +kernel) (pa_cons (pe_lc (own := [("item", 4)]) (g := gName 4) (tt := tYes) rfl sc_check_form.nd (pi_tup (pv 1)) (blkOk_by (N := N_check_form) (sc := defScope s_check_form) (by decide +kernel)) (fun _ _ _ _ _ => (pgn (i := 4) sc_check_form.nd)) (fun _ _ _ _ _ => pts_nil) (fun _ _ _ _ _ => (pe_fx G__is_register (hr.mono (by decide)) (pa_cons (pv 4) pa_nil)))) pa_nil)))) (pss_one (ps_raise rfl tk (pm_2 X_BadCircuit (hr.mono (by decide)) (pa_cons pe_str (pa_cons pe_str pa_nil))))) pss_nil)
      (pss_one (ps_if (pt_not (pt_val (pe_callB (cr_all rfl) (by rfl) T.f_all (by decide +kernel) (pa_cons (pe_lc (own := [("item", 4)]) (g := gName 4) (tt := tYes) rfl sc_check_form.nd (pi_tup (pv 2)) (blkOk_by (N := N_check_form) (sc := defScope s_check_form) (by decide +kernel)) (fun _ _ _ _ _ => (pgn (i := 4) sc_check_form.nd)) (fun _ _ _ _ _ => pts_nil) (fun _ _ _ _ _ => (pe_fx G_is_gate (hr.mono (by decide)) (pa_cons (pv 4) pa_nil)))) pa_nil)))) (pss_one (ps_raise rfl tk (pm_2 X_BadCircuit (hr.mono (by decide)) (pa_cons pe_str (pa_cons pe_str pa_nil))))) pss_nil)))), ?_⟩
  rintro ds r ⟨is, rs, gs, os, rfl, ⟨l1, l2, l3, l4⟩, ⟨o1, o2, o3, o4⟩, rfl⟩
  show Does P w K E _ [.d (.tup is), .d (.tup rs), .d (.tup gs), .d (.tup os), .u] _
  have t1 : ∀ {env : En} {i : Nat} {xs : List Dt}, env[i]? = some (.d (.tup xs)) → xs.length ≤ 40000 → xs.all okS = true → Tp P w K (tNot (tB (tCall (spR P w K R_are_names) [] E0 (tCons (tVar i) tNil)))) env (!xs.all isName) := fun h0 h1 h2 =>
    tp_not (tp_B (ep_call (ap_cons (ep_var h0) ap_nil) ⟨_, .inl rfl, h1, h2, rfl⟩))
  have bad : ∀ {s2 : TS} {e : En}, Se P w K (tSeq (fun _ σ H => tMkO (He.ga K "BadCircuit") (spX2 (He.ga K "BadCircuit") "reason" "name") [] (tCons (tC (.str "form")) (tCons (tC (.str "")) tNil)) σ H fun cls d H' => (fun (cls : Value) (d : Option Addr) (_ : L2.St) (H : Hp) => E cls d H) cls d σ H') s2) e (.rz (fun cls d _ H => E cls d H) (badC K "form" "") e) := se_seqF (se_raise2 (by walk_at "ap"))
  have bad1 : ∀ {e : En}, Se P w K (fun _ σ H => tMkO (He.ga K "BadCircuit") (spX2 (He.ga K "BadCircuit") "reason" "name") [] (tCons (tC (.str "form")) (tCons (tC (.str "")) tNil)) σ H fun cls d H' => (fun (cls : Value) (d : Option Addr) (_ : L2.St) (H : Hp) => E cls d H) cls d σ H') e (.rz (fun cls d _ H => E cls d H) (badC K "form" "") e) := se_raise2 (by walk_at "ap")
  refine does_if (e := [.d (.tup is), .d (.tup rs), .d (.tup gs), .d (.tup os), .u]) ?_
  refine se_when (te_p (tp_or (t1 rfl l1 o1) fun _ => t1 rfl l4 o4)) (fun hb => ?_) (fun hb => ?_)
  · rw [if_neg]
    · exact bad
    · intro z
      simp only [Bool.and_eq_true] at z
      rw [z.1, z.2.1] at hb
      cases hb
  · obtain ⟨b1, b2⟩ : is.all isName = true ∧ os.all isName = true := by simpa using hb
    refine se_when (b := !rs.all isReg) (te_p (tp_not (tp_B (ep_is (ep_cb (ap_cons (ep_is (ep_new (np_map (ip_tup ep_var) l2 (fun d => .bl (isReg d)) fun d hd => ep_call (ap_cons ep_var ap_nil) ⟨d, rfl, List.all_eq_true.mp o2 d hd, rfl⟩)) (e := .lst ((rs.map isReg).map .bl)) (by rw [List.map_map]; rfl)) ap_nil) rl_all) (by rw [List.all_map]; rfl))))) (fun hb => ?_) (fun hb => ?_)
    · rw [if_neg]
      · exact bad
      · intro z
        simp only [Bool.and_eq_true] at z
        rw [z.2.2.1] at hb
        cases hb
    · refine se_if (b := !gs.all isGate) (te_p (tp_not (tp_B (ep_is (ep_cb (ap_cons (ep_is (ep_new (np_map (ip_tup ep_var) l3 (fun d => .bl (isGate d)) fun d hd => ep_call (ap_cons ep_var ap_nil) ⟨d, rfl, List.all_eq_true.mp o3 d hd, rfl⟩)) (e := .lst ((gs.map isGate).map .bl)) (by rw [List.map_map]; rfl)) ap_nil) rl_all) (by rw [List.all_map]; rfl))))) (fun hc => ?_) (fun hc => ?_)
      · rw [if_neg]
        · exact bad1
        · intro z
          simp only [Bool.and_eq_true] at z
          rw [z.2.2.2] at hc
          cases hc
      · rw [if_pos]
        · exact se_next
        · rw [b1, b2]
          have h1 : rs.all isReg = true := by simpa using hb
          have h2 : gs.all isGate = true := by simpa using hc
          rw [h1, h2]
          rfl
end
end CC
set_option maxHeartbeats 400000
namespace CC
open PySem PySem.Spec PyProof.Rows L2 Qw
open Evl hiding ea_cons
open Pw (Dt Rp RpL Wk R2d R1d RLd RLn Kq KqL truD flatD fl py pyL rangeD charsD spX2 Xm Xm0 tyD isI isB isS isTp isL rl_isInt rl_isBool rl_isStr rl_isTup rl_isList rl_int rl_max2 rl_min2 rl_len rl_lenT rl_tup rl_tupT rl_lenS rl_all rl_any rn_list rn_listT r2_I0 r2_B0 r2_eqI r2_neI r2_eqS r2_neS r2_eq r2_ne r2_I r2_inS r2_niS r2_in r2_inT r2_ixL r2_ixT r2_ixS r2_addS r2_eqD r2_neD r2_ixM r1_U ixN_at itemD cr_int cr_min2 cr_max2 cr_list cr_tuple cr_len pe_globI pe_globS pe_globR pe_tyname rTupS rInt1 rMin2)
local macro_rules | `(tactic| walk_at "side") => `(tactic| first
  | decide | omega | assumption | (show (0 : Int) < _; omega) | exact (show CDiv _ _ from ⟨by omega, by omega⟩) | exact (show CMul _ _ from Or.inr ⟨by omega, by omega⟩) | exact (show CMul _ _ from Or.inl ⟨by omega, by omega⟩) | exact (show CPow _ _ from ⟨by decide, by decide, by decide⟩))
local macro_rules | `(tactic| walk_at "op") => `(tactic| first
  | exact r2_I0 | exact r2_B0 | exact r2_eqI | exact r2_neI | exact r2_eqS | exact r2_neS
  | exact r2_eq rfl rfl rfl | exact r2_ne rfl rfl rfl
  | (refine' r2_I ?_; walk_at "side") | exact r2_inS | exact r2_niS)
local macro_rules | `(tactic| walk_at "rl") => `(tactic| first
  | exact rl_int | exact rl_max2 | exact rl_min2 | exact rl_len | exact rl_lenT | exact rl_isInt (by first | rfl | assumption) | exact rl_isBool (by first | rfl | assumption) | exact rl_isStr (by first | rfl | assumption) | exact rl_isTup (by first | rfl | assumption) | exact rl_isList (by first | rfl | assumption) | exact rl_tup | exact rl_tupT | (refine' rl_lenS ?_; walk_at "side"))
local macro_rules | `(tactic| walk_at "ap") => `(tactic| first
  | exact ap_nil
  | (refine' ap_cons ?eah ?eat; (case eah => walk_at "ep"); (case eat => walk_at "ap")))
local macro_rules | `(tactic| walk_at "ep") => `(tactic| first
  | exact ep_int | exact ep_bl | exact ep_str | exact ep_non | exact ep_ty | exact ep_var
  | (refine' ep_op ?eva ?evb ?evc; (case eva => walk_at "ep"); (case evb => walk_at "ep"); (case evc => walk_at "op"))
  | (refine' ep_cb ?evd ?eve; (case evd => walk_at "ap"); (case eve => walk_at "rl"))
  | (refine' ep_un ?evf r1_U; (case evf => walk_at "ep"))
  | (refine' ep_tup ?evg ?evi; (case evg => walk_at "ap"); (case evi => exact Nat.le_of_ble_eq_true rfl))
  | (refine' ep_lst ?evh ?evj; (case evh => walk_at "ap"); (case evj => exact Nat.le_of_ble_eq_true rfl))
  | assumption)
local macro_rules | `(tactic| walk_at "ee") => `(tactic| (refine' ee_p ?eep; (case eep => walk_at "ep")))
local macro_rules | `(tactic| walk_at "te") => `(tactic| (refine' te_p ?tep; (case tep => walk_at "tp")))
local macro_rules | `(tactic| walk_at "tp") => `(tactic| first
  | (refine' tp_test ?tea; (case tea => walk_at "ep"))
  | (refine' tp_B ?teb; (case teb => walk_at "ep"))
  | (refine' tp_not ?tec; (case tec => walk_at "tp"))
  | (refine' tp_or ?ted ?tee; (case ted => walk_at "tp"); (case tee => intro _; walk_at "tp"))
  | (refine' tp_and ?tef ?teg; (case tef => walk_at "tp"); (case teg => intro _; walk_at "tp"))
  | assumption)
section
variable {P : Program} {w : World} {K : PySem.W.Frag} {mg : Str → Option Value} {base : Heap}
theorem se_lez {s : TS} {env e1 e2 : En} {W : WX} {x : Xn} (h : Se P w K s env (.rz W x e1)) (l : Le e1 e2) : Se P w K s env (.rz W x e2) := fun F0 H0 F H σ D S p => h F0 H0 F H σ D S fun od F1 H1 σ1 e1 S1 => p od F1 H1 σ1 e1 (S1.le l)
theorem le_x : ∀ {a : En} {n : Nat}, a.length = n → Le a (List.replicate n .x) := fun {a n} h => ⟨by simp [h], fun i s e => .inl (by
  rw [List.getElem?_replicate] at e
  split at e
  · exact (Option.some.inj e).symm
  · cases e)⟩
def orX (f : Str → Xn) : Option Str → Rs
  | none => .d .non
  | some a => .x (f a)
def outX (E : XK) (e e2 : En) (f : Str → Xn) : Option Str → Out
  | none => .nx e
  | some a => .rz (fun cls d _ H => E cls d H) (f a) e2
def dupOf : List Str → List Str → Option Str
  | _, [] => none
  | seen, x :: r => if x ∈ seen then some x else dupOf (seen ++ [x]) r
theorem dup_spec : ∀ (xs seen : List Str), (dupOf seen xs = none ∧ ∀ (i : Nat) x, xs[i]? = some x → ¬ x ∈ seen ++ xs.take i) ∨ ∃ (i : Nat) (x : Str), dupOf seen xs = some x ∧ xs[i]? = some x ∧ x ∈ seen ++ xs.take i ∧ ∀ (j : Nat) y, j < i → xs[j]? = some y → ¬ y ∈ seen ++ xs.take j
  | [], seen => .inl ⟨rfl, fun i x h => by simp at h⟩
  | a :: xs, seen => by
    by_cases e : a ∈ seen
    · exact .inr ⟨0, a, by simp [dupOf, e], rfl, by simpa using e, fun j y h => by omega⟩
    · have h0 : dupOf seen (a :: xs) = dupOf (seen ++ [a]) xs := by simp [dupOf, e]
      rw [h0]
      rcases dup_spec xs (seen ++ [a]) with ⟨h1, h2⟩ | ⟨i, x, h1, h2, h3, h4⟩
      · refine .inl ⟨h1, fun i x h => ?_⟩
        cases i with
        | zero =>
          simp at h
          subst h
          simpa using e
        | succ i =>
          have := h2 i x (by simpa using h)
          simpa [List.append_assoc] using this
      · refine .inr ⟨i + 1, x, h1, by simpa using h2, by simpa [List.append_assoc] using h3, fun j y hj hy => ?_⟩
        cases j with
        | zero =>
          simp at hy
          subst hy
          simpa using e
        | succ j =>
          have := h4 j y (by omega) (by simpa using hy)
          simpa [List.append_assoc] using this
def setS (xs : List Str) : Key → Bool := Qs.memK (xs.map Sum.inr)
theorem setS_in (xs : List Str) (x : Str) : setS xs (.inr x) = decide (x ∈ xs) := by
  unfold setS Qs.memK
  induction xs with
  | nil => simp
  | cons a xs ih =>
    rw [List.map_cons, List.any_cons, ih]
    have : decide ((Sum.inr x : Key) = Sum.inr a) = decide (x = a) := decide_eq_decide.mpr ⟨Sum.inr.inj, fun h => by rw [h]⟩
    rw [this]
    simp
theorem setS_snoc (xs : List Str) (x : Str) : (fun j => setS xs j || decide (j = (.inr x : Key))) = setS (xs ++ [x]) := by
  funext j
  unfold setS Qs.memK
  simp
def R_check_driven_once (K : PySem.W.Frag) (ds : List Dt) (r : Rs) : Prop := ∃ xs : List Str, ds = [.lst (xs.map .str)] ∧ xs.length ≤ 3000 ∧ r = orX (badC K "twice") (dupOf [] xs)
theorem l_check_driven_once (K : PySem.W.Frag) (ds : List Dt) (r : Rs) (h : R_check_driven_once K ds r) : ds.length = 1 := by
  obtain ⟨xs, rfl, _⟩ := h
  rfl
theorem does_opt {E : XK} {s : TS} {env e e2 : En} {f : Str → Xn} (o : Option Str) (h : Se P w K s env (outX E e e2 f o)) : Does P w K E s env (orX f o) := by
  cases o with
  | none => exact does_nx h
  | some a => exact does_rz h
abbrev N_check_driven_once : List Str := ["lines", "seen", "line"]
theorem sc_check_driven_once : FnScope N_check_driven_once ["lines"] (defScope s_check_driven_once) := ⟨rfl, rfl, rfl, by decide +kernel, rfl, by decide +kernel, by decide +kernel⟩
theorem k_check_driven_once (T : Txt K mg) (D : Dx K mg "_check_driven_once" ["lines"] s_check_driven_once)  (X_BadCircuit : Xm P w K mg base "BadCircuit" (He.ga K "BadCircuit") (spX2 (He.ga K "BadCircuit") "reason" "name")) : Fx P w K mg base 3 "_check_driven_once" ["lines"] (spR P w K (R_check_driven_once K)) := by
  refine Fx.ofX D sc_check_driven_once (l_check_driven_once K) fun f cdv A outer s H E hr tk => ?_
  refine ⟨_, (pss_cons (pset (i := 1) sc_check_driven_once.nd (pe_callTy0 cr_set0K (by rfl) T.f_set (by decide +kernel)))
      (pss_one (ps_for (passes_of rfl) rfl (pi_list (pv 0)) (pgn (i := 2) sc_check_driven_once.nd)
      (pss_cons (ps_if (pt_cmpR or_sinK (pv 2) (pv 1) rfl) (pss_one (ps_raise rfl tk (pm_2 X_BadCircuit (hr.mono (by decide)) (pa_cons pe_str (pa_cons (pv 2) pa_nil))))) pss_nil)
      (pss_one (ps_expr (pe_saddK (pv 1) (pa_cons (pv 2) pa_nil)))))))), ?_⟩
  rintro ds r ⟨xs, rfl, hl, rfl⟩
  show Does P w K E _ [.d (.lst (xs.map .str)), .u, .u] _
  refine does_opt (e := [.d (.lst (xs.map .str)), .ow none (.set (setS xs) xs.length), .x]) (e2 := List.replicate 3 .x) _ ?_
  refine se_seq (env1 := [.d (.lst (xs.map .str)), .ow none (.set (setS []) 0), .u]) (se_own (eo_p po_set0)) ?_
  have turn : ∀ (i : Nat) (x : Str), xs[i]? = some x → i < xs.length := fun i x h => (List.getElem?_eq_some_iff.mp h).1
  have hE : ∀ (i : Nat) (d : Dt), (xs.map Dt.str)[i]? = some d → ∃ x, xs[i]? = some x ∧ d = .str x := fun i d h => by
    rw [List.getElem?_map] at h
    cases e : xs[i]? with
    | none => rw [e] at h; cases h
    | some x =>
      rw [e] at h
      exact ⟨x, rfl, (Option.some.inj h).symm⟩
  let En0 : Nat → En := fun i => [.d (.lst (xs.map .str)), .ow none (.set (setS (xs.take i)) i), .x]
  have t1 : ∀ (i : Nat) (x : Str), Te P w K (tTest (tOp (rSInK P w false) (tVar 2) (tVar 1))) ((En0 i).set 2 (.d (.str x))) (decide (x ∈ xs.take i)) ((En0 i).set 2 (.d (.str x))) := fun i x => te_p (tp_is (tp_test (ep_inS (k := .inr x) (S0 := setS (xs.take i)) (m := i) false ep_var)) (setS_in _ _))
  rcases dup_spec xs [] with ⟨h1, h2⟩ | ⟨i, x, h1, h2, h3, h4⟩
  · rw [h1]
    refine se_is (se_for (ie_p (ip_list ep_var)) En0 xs.length (by simp) (Le.s (Le.s (Le.x Le.nil))) (fun i d hi hd => ?_) (.inl ⟨by simp, rfl⟩)) (by simp only [En0, List.take_length]; rfl)
    obtain ⟨x, hx, rfl⟩ := hE i d hd
    refine ⟨_, ge_name, se_nc (se_le (se_when (b := false) (te_is (t1 i x) (decide_eq_false (by simpa using h2 i x hx))) (fun z => nomatch z) fun _ => se_addS (k := .inr x) (S0 := setS (xs.take i)) (m := i) ep_var rfl (by omega)) ?_)⟩
    rw [setS_snoc, show xs.take i ++ [x] = xs.take (i + 1) by rw [List.take_add_one, hx]; rfl]
    exact Le.s (Le.s (Le.x Le.nil))
  · rw [h1]
    have hi := turn i x h2
    refine se_for (ie_p (ip_list ep_var)) En0 i (by simp; omega) (Le.s (Le.s (Le.x Le.nil))) (fun j d hj hd => ?_) (.inr ⟨.str x, _, by rw [List.getElem?_map, h2]; rfl, ge_name, .inl ⟨rfl, (fun _ z => nomatch z), (fun _ z => nomatch z), ?_⟩⟩)
    · obtain ⟨y, hy, rfl⟩ := hE j d hd
      refine ⟨_, ge_name, se_nc (se_le (se_when (b := false) (te_is (t1 j y) (decide_eq_false (by simpa using h4 j y hj hy))) (fun z => nomatch z) fun _ => se_addS (k := .inr y) (S0 := setS (xs.take j)) (m := j) ep_var rfl (by omega)) ?_)⟩
      rw [setS_snoc, show xs.take j ++ [y] = xs.take (j + 1) by rw [List.take_add_one, hy]; rfl]
      exact Le.s (Le.s (Le.x Le.nil))
    · exact se_when (b := true) (te_is (t1 i x) (decide_eq_true (by simpa using h3))) (fun _ => se_lez (se_seqF (se_raise2 (by walk_at "ap"))) (le_x rfl)) (fun z => nomatch z)
def R_check_known (K : PySem.W.Frag) (ds : List Dt) (r : Rs) : Prop := ∃ xs ys : List Str, ds = [.lst (xs.map .str), .lst (ys.map .str)] ∧ xs.length ≤ 3000 ∧ ys.length ≤ 40000 ∧ r = orX (badC K "unknown") (ys.find? fun y => !decide (y ∈ xs))
theorem l_check_known (K : PySem.W.Frag) (ds : List Dt) (r : Rs) (h : R_check_known K ds r) : ds.length = 2 := by
  obtain ⟨xs, ys, rfl, _⟩ := h
  rfl
def strOf : Dt → Str
  | .str x => x
  | _ => ""
theorem find_map (ys : List Str) (p : Str → Bool) : (ys.map Dt.str).find? (fun d => p (strOf d)) = (ys.find? p).map Dt.str := by
  induction ys with
  | nil => rfl
  | cons a ys ih =>
    rw [List.map_cons, List.find?_cons, List.find?_cons]
    show (match p a with | true => _ | false => _) = _
    cases p a with
    | true => rfl
    | false => exact ih
theorem map_inr (xs : List Str) : (xs.map Sum.inr).map kD = xs.map Dt.str := by
  rw [List.map_map]
  rfl
theorem se_findX {E : XK} {wi : TI} {g : TG} {tb : TS} {env : En} (ys : List Str) (p : Str → Bool) (f : Str → Xn) (hI : Ip P w K wi env (ys.map .str)) (E1 e2 : En) (h0 : Le env E1)
    (hs : ∀ y ∈ ys, ∃ e1, Ge P w K g (.str y) E1 e1 ∧ (p y = true → Se P w K tb e1 (.rz (fun cls d _ H => E cls d H) (f y) e2)) ∧ (p y = false → Se P w K tb e1 (.nc E1))) : Se P w K (tFor wi g tb) env (outX E E1 e2 f (ys.find? p)) := by
  refine se_is (se_find (fun d => p (strOf d)) (fun d => .rz (fun cls d _ H => E cls d H) (f (strOf d)) e2) (fun d => ⟨rfl, (fun _ z => nomatch z), (fun _ z => nomatch z)⟩) hI E1 h0 fun d hd => ?_) ?_
  · obtain ⟨y, hy, rfl⟩ := List.mem_map.mp hd
    exact hs y hy
  · rw [find_map ys p]
    cases ys.find? p <;> rfl
abbrev N_check_known : List Str := ["lines", "names", "known", "name"]
theorem sc_check_known : FnScope N_check_known ["lines", "names"] (defScope s_check_known) := ⟨rfl, rfl, rfl, by decide +kernel, rfl, by decide +kernel, by decide +kernel⟩
theorem k_check_known (T : Txt K mg) (D : Dx K mg "_check_known" ["lines", "names"] s_check_known)  (X_BadCircuit : Xm P w K mg base "BadCircuit" (He.ga K "BadCircuit") (spX2 (He.ga K "BadCircuit") "reason" "name")) : Fx P w K mg base 3 "_check_known" ["lines", "names"] (spR P w K (R_check_known K)) := by
  refine Fx.ofX D sc_check_known (l_check_known K) fun f cdv A outer s H E hr tk => ?_
  refine ⟨_, (pss_cons (pset (i := 2) sc_check_known.nd (pe_callTy (Qs.cr_setL rfl) (by rfl) T.f_set (by decide +kernel) (pa_cons (pv 0) pa_nil)))
      (pss_one (ps_for (passes_of rfl) rfl (pi_list (pv 1)) (pgn (i := 3) sc_check_known.nd)
      (pss_one (ps_if (pt_cmpR or_snotinK (pv 3) (pv 2) rfl) (pss_one (ps_raise rfl tk (pm_2 X_BadCircuit (hr.mono (by decide)) (pa_cons pe_str (pa_cons (pv 3) pa_nil))))) pss_nil))))), ?_⟩
  rintro ds r ⟨xs, ys, rfl, hl, hl2, rfl⟩
  show Does P w K E _ [.d (.lst (xs.map .str)), .d (.lst (ys.map .str)), .u, .u] _
  refine does_opt (e := [.d (.lst (xs.map .str)), .d (.lst (ys.map .str)), .ow none (.set (setS xs) xs.length), .x]) (e2 := List.replicate 4 .x) _ ?_
  refine se_seq (env1 := [.d (.lst (xs.map .str)), .d (.lst (ys.map .str)), .ow none (.set (setS xs) xs.length), .u]) (se_own (eo_p ?_)) ?_
  · have h := po_setL (P := P) (w := w) (K := K) (env := [.d (.lst (xs.map .str)), .d (.lst (ys.map .str)), .u, .u]) (tA := tCons (tVar 0) tNil) (ks := xs.map Sum.inr) (ap_cons (by rw [map_inr]; exact ep_var) ap_nil) (by simp; omega)
    rw [List.length_map] at h
    exact h
  · refine se_findX ys _ _ (ip_list ep_var) _ _ (Le.s (Le.s (Le.s (Le.x Le.nil)))) fun y hy => ⟨_, ge_name, fun hp => ?_, fun hp => ?_⟩
    · exact se_if (b := true) (te_p (tp_is (tp_test (ep_inS (k := .inr y) (S0 := setS xs) (m := xs.length) true ep_var)) ((congrArg (!·) (setS_in xs y)).trans hp))) (fun _ => se_lez (se_raise2 (by walk_at "ap")) (le_x rfl)) (fun z => nomatch z)
    · exact se_nc (se_le (se_if (b := false) (te_p (tp_is (tp_test (ep_inS (k := .inr y) (S0 := setS xs) (m := xs.length) true ep_var)) ((congrArg (!·) (setS_in xs y)).trans hp))) (fun z => nomatch z) (fun _ => se_next)) (Le.s (Le.s (Le.s (Le.x Le.nil)))))
def R_check_size (K : PySem.W.Frag) (ds : List Dt) (r : Rs) : Prop := ∃ xs ys : List Dt, ds = [.lst xs, .lst ys] ∧ r = if xs.length ≤ 400 ∧ ys.length ≤ 40 then .d .non else .x (badC K "size" "")
theorem l_check_size (K : PySem.W.Frag) (ds : List Dt) (r : Rs) (h : R_check_size K ds r) : ds.length = 2 := by
  obtain ⟨xs, ys, rfl, _⟩ := h
  rfl
abbrev N_check_size : List Str := ["lines", "sources"]
theorem sc_check_size : FnScope N_check_size ["lines", "sources"] (defScope s_check_size) := ⟨rfl, rfl, rfl, by decide +kernel, rfl, by decide +kernel, by decide +kernel⟩
theorem k_check_size (T : Txt K mg) (D : Dx K mg "_check_size" ["lines", "sources"] s_check_size)  (X_BadCircuit : Xm P w K mg base "BadCircuit" (He.ga K "BadCircuit") (spX2 (He.ga K "BadCircuit") "reason" "name")) : Fx P w K mg base 3 "_check_size" ["lines", "sources"] (spR P w K (R_check_size K)) := by
  refine Fx.ofX D sc_check_size (l_check_size K) fun f cdv A outer s H E hr tk => ?_
  refine ⟨_, (pss_one (ps_if (PW.pt (pw_or (pt_cmpR op_gt (pe_callB cr_len (by rfl) T.f_len PySem.boot_len (pa_cons (pv 0) pa_nil)) (pe_globI T.g_MOST_LINES) (nomark _)) (pw_or1 (pt_cmpR op_gt (pe_callB cr_len (by rfl) T.f_len PySem.boot_len (pa_cons (pv 1) pa_nil)) (pe_globI T.g_MOST_SOURCES) (nomark _))))) (pss_one (ps_raise rfl tk (pm_2 X_BadCircuit (hr.mono (by decide)) (pa_cons pe_str (pa_cons pe_str pa_nil))))) pss_nil)), ?_⟩
  rintro ds r ⟨xs, ys, rfl, rfl⟩
  show Does P w K E _ [.d (.lst xs), .d (.lst ys)] _
  refine does_if (e := [.d (.lst xs), .d (.lst ys)]) ?_
  refine se_if (b := decide ((400 : Int) < xs.length) || decide ((40 : Int) < ys.length)) (te_p (tp_or (by walk_at "tp") fun _ => by walk_at "tp")) (fun hb => ?_) (fun hb => ?_)
  · rw [if_neg]
    · exact se_raise2 (by walk_at "ap")
    · rintro ⟨h1, h2⟩
      simp only [Bool.or_eq_true, decide_eq_true_eq] at hb
      omega
  · rw [if_pos]
    · exact se_next
    · simp only [Bool.or_eq_false_iff, decide_eq_false_iff_not] at hb
      omega
end
end CC
set_option maxHeartbeats 400000
namespace CC
open PySem PySem.Spec PyProof.Rows L2 Qw
open Evl hiding ea_cons
open Pw (Dt Rp RpL Wk R2d R1d RLd RLn Kq KqL truD flatD fl py pyL rangeD charsD spX2 Xm Xm0 tyD isI isB isS isTp isL rl_isInt rl_isBool rl_isStr rl_isTup rl_isList rl_int rl_max2 rl_min2 rl_len rl_lenT rl_tup rl_tupT rl_lenS rl_all rl_any rn_list rn_listT r2_I0 r2_B0 r2_eqI r2_neI r2_eqS r2_neS r2_eq r2_ne r2_I r2_inS r2_niS r2_in r2_inT r2_ixL r2_ixT r2_ixS r2_addS r2_eqD r2_neD r2_ixM r1_U ixN_at itemD cr_int cr_min2 cr_max2 cr_list cr_tuple cr_len pe_globI pe_globS pe_globR pe_tyname rTupS rInt1 rMin2)
local macro_rules | `(tactic| walk_at "side") => `(tactic| first
  | decide | omega | assumption | (show (0 : Int) < _; omega) | exact (show CDiv _ _ from ⟨by omega, by omega⟩) | exact (show CMul _ _ from Or.inr ⟨by omega, by omega⟩) | exact (show CMul _ _ from Or.inl ⟨by omega, by omega⟩) | exact (show CPow _ _ from ⟨by decide, by decide, by decide⟩))
local macro_rules | `(tactic| walk_at "op") => `(tactic| first
  | exact r2_I0 | exact r2_B0 | exact r2_eqI | exact r2_neI | exact r2_eqS | exact r2_neS
  | exact r2_eq rfl rfl rfl | exact r2_ne rfl rfl rfl
  | (refine' r2_I ?_; walk_at "side") | exact r2_inS | exact r2_niS)
local macro_rules | `(tactic| walk_at "rl") => `(tactic| first
  | exact rl_int | exact rl_max2 | exact rl_min2 | exact rl_len | exact rl_lenT | exact rl_isInt (by first | rfl | assumption) | exact rl_isBool (by first | rfl | assumption) | exact rl_isStr (by first | rfl | assumption) | exact rl_isTup (by first | rfl | assumption) | exact rl_isList (by first | rfl | assumption) | exact rl_tup | exact rl_tupT | (refine' rl_lenS ?_; walk_at "side"))
local macro_rules | `(tactic| walk_at "ap") => `(tactic| first
  | exact ap_nil
  | (refine' ap_cons ?eah ?eat; (case eah => walk_at "ep"); (case eat => walk_at "ap")))
local macro_rules | `(tactic| walk_at "ep") => `(tactic| first
  | exact ep_int | exact ep_bl | exact ep_str | exact ep_non | exact ep_ty | exact ep_var
  | (refine' ep_op ?eva ?evb ?evc; (case eva => walk_at "ep"); (case evb => walk_at "ep"); (case evc => walk_at "op"))
  | (refine' ep_cb ?evd ?eve; (case evd => walk_at "ap"); (case eve => walk_at "rl"))
  | (refine' ep_un ?evf r1_U; (case evf => walk_at "ep"))
  | (refine' ep_tup ?evg ?evi; (case evg => walk_at "ap"); (case evi => exact Nat.le_of_ble_eq_true rfl))
  | (refine' ep_lst ?evh ?evj; (case evh => walk_at "ap"); (case evj => exact Nat.le_of_ble_eq_true rfl))
  | assumption)
local macro_rules | `(tactic| walk_at "ee") => `(tactic| (refine' ee_p ?eep; (case eep => walk_at "ep")))
local macro_rules | `(tactic| walk_at "te") => `(tactic| (refine' te_p ?tep; (case tep => walk_at "tp")))
local macro_rules | `(tactic| walk_at "tp") => `(tactic| first
  | (refine' tp_test ?tea; (case tea => walk_at "ep"))
  | (refine' tp_B ?teb; (case teb => walk_at "ep"))
  | (refine' tp_not ?tec; (case tec => walk_at "tp"))
  | (refine' tp_or ?ted ?tee; (case ted => walk_at "tp"); (case tee => intro _; walk_at "tp"))
  | (refine' tp_and ?tef ?teg; (case tef => walk_at "tp"); (case teg => intro _; walk_at "tp"))
  | assumption)
section
variable {P : Program} {w : World} {K : PySem.W.Frag} {mg : Str → Option Value} {base : Heap}
structure Gt where
  l : Str
  k : Str
  ps : List Str
deriving DecidableEq
def Gt.d (g : Gt) : Dt := .tup [.str g.l, .str g.k, .tup (g.ps.map .str)]
def ins (xs : List Str) (x : Str) : List Str := if x ∈ xs then xs else xs ++ [x]
def kn (xs : List Str) : KD := xs.map fun x => (.inr x, .bl true)
theorem val_kn (xs : List Str) (x : Str) : (valD (kn xs) (.inr x)).isSome = decide (x ∈ xs) := by
  unfold valD kn
  induction xs with
  | nil => simp
  | cons a xs ih =>
    rw [List.map_cons, List.find?_cons]
    by_cases e : a = x
    · subst e; simp
    · have : decide ((Sum.inr a : Key) = Sum.inr x) = false := decide_eq_false fun h => e (Sum.inr.inj h)
      simp only [this]
      rw [ih]
      exact decide_eq_decide.mpr (by simp [Ne.symm e])
theorem put_kn (xs : List Str) (x : Str) : putD (kn xs) (.inr x) (.bl true) = kn (ins xs x) := by
  unfold putD ins
  have hany : ((kn xs).any fun kv => decide (kv.1 = Sum.inr x)) = decide (x ∈ xs) := by
    unfold kn
    induction xs with
    | nil => simp
    | cons a xs ih =>
      rw [List.map_cons, List.any_cons, ih]
      have : decide ((Sum.inr a : Key) = Sum.inr x) = decide (x = a) := decide_eq_decide.mpr ⟨fun h => (Sum.inr.inj h).symm, fun h => by rw [h]⟩
      rw [this]
      simp
  rw [hany]
  by_cases e : x ∈ xs
  · rw [if_pos (decide_eq_true e), if_pos e]
    unfold kn
    rw [List.map_map]
    refine List.map_congr_left fun a _ => ?_
    show (if (Sum.inr a : Key) = Sum.inr x then ((Sum.inr a : Key), Dt.bl true) else _) = _
    split <;> rfl
  · rw [if_neg (by simpa using e), if_neg e]
    simp [kn]
theorem ins_len (xs : List Str) (x : Str) : (ins xs x).length ≤ xs.length + 1 := by
  unfold ins
  split <;> simp
theorem kn_len (xs : List Str) : (kn xs).length = xs.length := by simp [kn]
structure Os where
  kn : List Str
  fo : List Gt
  le : List Gt
def ostep (s : Os) (g : Gt) : Os := if (g.ps.all fun p => decide (p ∈ s.kn)) = true then ⟨ins s.kn g.l, s.fo ++ [g], s.le⟩ else ⟨s.kn, s.fo, s.le ++ [g]⟩
def opass (k : List Str) (fo ws : List Gt) : Os := ws.foldl ostep ⟨k, fo, []⟩
def ordN : Nat → List Str → List Gt → List Gt → Except Str (List Str × List Gt)
  | _, k, fo, [] => .ok (k, fo)
  | 0, _, _, g :: _ => .error g.l
  | n + 1, k, fo, g :: ws => if (opass k fo (g :: ws)).le.length = (g :: ws).length then .error (((opass k fo (g :: ws)).le.head?.map Gt.l).getD "") else ordN n (opass k fo (g :: ws)).kn (opass k fo (g :: ws)).fo (opass k fo (g :: ws)).le
def order (src : List Str) (gs : List Gt) : Except Str (List Str × List Gt) := ordN gs.length (src.foldl ins []) [] gs
def ordR (K : PySem.W.Frag) : Except Str (List Str × List Gt) → Rs
  | .ok l => .o (.lst (l.2.map Gt.d))
  | .error x => .x (badC K "loop" x)
def R_in_order (K : PySem.W.Frag) (ds : List Dt) (r : Rs) : Prop := ∃ (src : List Str) (gs : List Gt), ds = [.lst (src.map .str), .tup (gs.map Gt.d)] ∧ (src.length ≤ 3000 ∧ gs.length ≤ 3000 ∧ ∀ g ∈ gs, g.ps.length ≤ 30000) ∧ r = ordR K (order src gs)
theorem l_in_order (K : PySem.W.Frag) (ds : List Dt) (r : Rs) (h : R_in_order K ds r) : ds.length = 2 := by
  obtain ⟨xs, ys, rfl, _⟩ := h
  rfl
theorem opass_len (ws : List Gt) : ∀ s : Os, (ws.foldl ostep s).fo.length + (ws.foldl ostep s).le.length = s.fo.length + s.le.length + ws.length ∧ (s.le.length ≤ (ws.foldl ostep s).le.length ∧ s.fo.length ≤ (ws.foldl ostep s).fo.length) ∧ (ws.foldl ostep s).kn.length + s.fo.length ≤ s.kn.length + (ws.foldl ostep s).fo.length ∧ (∀ g ∈ (ws.foldl ostep s).le, g ∈ s.le ∨ g ∈ ws) := by
  induction ws with
  | nil => intro s; exact ⟨rfl, ⟨Nat.le_refl _, Nat.le_refl _⟩, Nat.le_refl _, fun g h => .inl h⟩
  | cons g ws ih =>
    intro s
    obtain ⟨h1, h2, h3, h4⟩ := ih (ostep s g)
    have e : (ostep s g).fo.length + (ostep s g).le.length = s.fo.length + s.le.length + 1 ∧ (s.le.length ≤ (ostep s g).le.length ∧ s.fo.length ≤ (ostep s g).fo.length) ∧ (ostep s g).kn.length + s.fo.length ≤ s.kn.length + (ostep s g).fo.length ∧ (∀ x ∈ (ostep s g).le, x ∈ s.le ∨ x = g) := by
      unfold ostep
      split
      · have := ins_len s.kn g.l
        refine ⟨by simp; omega, ⟨Nat.le_refl _, by simp⟩, by simp; omega, fun x h => .inl h⟩
      · refine ⟨by simp; omega, ⟨by simp, by simp⟩, by simp, fun x h => by simpa using h⟩
    simp only [List.foldl_cons, List.length_cons]
    refine ⟨by omega, ⟨by omega, by omega⟩, by omega, fun x hx => ?_⟩
    rcases h4 x hx with h | h
    · rcases e.2.2.2 x h with h | h
      · exact .inl h
      · exact .inr (by simp [h])
    · exact .inr (by simp [h])
theorem itm {ds : List Dt} {i : Nat} {z : Dt} (h : ds[i]? = some z) : R2d K (rIxT K) (.tup ds) (.int (i : Int)) z := r2_ixT (ixN_nat (List.getElem?_eq_some_iff.mp h).1) h
theorem itmL {ds : List Dt} {i : Nat} {z : Dt} (h : ds[i]? = some z) : R2d K (rIxL K) (.lst ds) (.int (i : Int)) z := r2_ixL (ixN_nat (List.getElem?_eq_some_iff.mp h).1) h
theorem se_seqO {s1 s2 : TS} {env : En} {o1 o : Out} (h1 : Se P w K s1 env o1) (h2 : (∃ env1, o1 = .nx env1 ∧ Se P w K s2 env1 o) ∨ (o1.fin = true ∧ o = o1)) : Se P w K (tSeq s1 s2) env o := by
  rcases h2 with ⟨e1, rfl, h2⟩ | ⟨f, rfl⟩
  · exact se_seq h1 h2
  · exact se_seqF h1 f
theorem se_whileO {t : TT} {tb : TS} {env : En} {o : Out} (Pv : En → Prop) (μ : En → Nat) (hs : ∀ e, Pv e → ∃ b, Te P w K t e b e ∧ (b = true → ∃ o', Se P w K tb e o' ∧ ((∃ e', o' = .nc e' ∧ Pv e' ∧ μ e' < μ e) ∨ (o' = o ∧ o.fin = true ∧ (∀ e, o ≠ .bk e) ∧ (∀ e, o ≠ .ct e)) ∨ ∃ e', o' = .bk e' ∧ o = .nx e')) ∧ (b = false → o = .nx e)) (h0 : Pv env) : Se P w K (tWhile t tb) env o :=
  se_while Pv μ (fun e he => by
    obtain ⟨b, h1, h2, h3⟩ := hs e he
    refine ⟨b, h1, fun hb => ?_, h3⟩
    obtain ⟨o', g1, g2⟩ := h2 hb
    rcases g2 with ⟨e', rfl, g3, g4⟩ | ⟨rfl, g3, g4, g5⟩ | ⟨e', rfl, g3⟩
    · exact .inl ⟨e', g3, g4, g1⟩
    · exact .inr (.inl ⟨g3, g4, g5, g1⟩)
    · exact .inr (.inr ⟨e', g3, g1⟩)) h0
def wIO (E : XK) (K : PySem.W.Frag) (Wn : List Str → List Gt → List Gt → En) : Except Str (List Str × List Gt) → Out
  | .ok l => .nx (Wn l.1 l.2 [])
  | .error x => .rz (fun cls d _ H => E cls d H) (badC K "loop" x) (List.replicate 9 .x)
def oIO (E : XK) (K : PySem.W.Frag) : Except Str (List Str × List Gt) → Out
  | .ok l => .ro (.lst (l.2.map Gt.d))
  | .error x => .rz (fun cls d _ H => E cls d H) (badC K "loop" x) (List.replicate 9 .x)
theorem does_ord {E : XK} {s : TS} {env : En} {r : Except Str (List Str × List Gt)} (h : Se P w K s env (oIO E K r)) : Does P w K E s env (ordR K r) := by
  cases r with
  | ok l => exact h
  | error x => exact ⟨_, h⟩
theorem fold_kn (l : List Str) : ∀ q : List Str, (l.filter fun _ => true).foldl (fun q a => putD q (.inr a) (.bl true)) (kn q) = kn (l.foldl ins q) := by
  have e : l.filter (fun _ => true) = l := by simp
  rw [e]
  induction l with
  | nil => intro q; rfl
  | cons a l ih =>
    intro q
    rw [List.foldl_cons, put_kn, ih, List.foldl_cons]
    simp
theorem foldins_len (l : List Str) : ∀ q : List Str, (l.foldl ins q).length ≤ q.length + l.length := by
  induction l with
  | nil => intro q; exact Nat.le_refl _
  | cons a l ih =>
    intro q
    have h1 := ih (ins q a)
    have h2 := ins_len q a
    simp only [List.foldl_cons, List.length_cons]
    omega
def wlen (e : En) : Nat := match (e[5]? : Option Sl) with
  | some (Sl.d (Dt.lst l)) => l.length
  | _ => 0
set_option maxHeartbeats 2000000
abbrev N_in_order : List Str := ["sources", "gates", "known", "line", "found", "waiting", "left", "gate", "pin"]
theorem sc_in_order : FnScope N_in_order ["sources", "gates"] (defScope s_in_order) := ⟨rfl, rfl, rfl, by decide +kernel, rfl, by decide +kernel, by decide +kernel⟩
theorem k_in_order (T : Txt K mg) (D : Dx K mg "_in_order" ["sources", "gates"] s_in_order)  (X_BadCircuit : Xm P w K mg base "BadCircuit" (He.ga K "BadCircuit") (spX2 (He.ga K "BadCircuit") "reason" "name")) : Fx P w K mg base 3 "_in_order" ["sources", "gates"] (spR P w K (R_in_order K)) := by
  refine Fx.ofX D sc_in_order (l_in_order K) fun f cdv A outer s H E hr tk => ?_
  have hu : (A.deeper (envOfC "_in_order" (defScope s_in_order) s.heap.objs.size f cdv)).units + 64 < cLine := hr.units
  have hu1 : (A.deeper (envOfC "_in_order" (defScope s_in_order) s.heap.objs.size f cdv)).units + 1 < cLine := Nat.lt_of_le_of_lt (Nat.add_le_add_left (by decide) _) hu
  refine ⟨_, (pss_cons (pset (i := 2) sc_in_order.nd (pe_dc (own := [("line", 3)]) (g := gName 3) (tt := tYes) rfl sc_in_order.nd (pi_list (pv 0)) (blkOk_by (N := N_in_order) (sc := defScope s_in_order) (by decide +kernel)) (fun _ _ _ _ _ => (pgn (i := 3) sc_in_order.nd)) (fun _ _ _ _ _ => pts_nil) (fun _ _ _ _ _ => (pv 3)) (fun _ _ _ _ _ => pe_bl)))
      (pss_cons (pset (i := 4) sc_in_order.nd (pe_lst pa_nil))
      (pss_cons (pset (i := 5) sc_in_order.nd (pe_callTy cr_list (by rfl) T.f_list (by decide +kernel) (pa_cons (pv 1) pa_nil)))
      (pss_cons (ps_while (passes_of rfl) (pt_truth (pv 5) (fun _ => rfl))
      (pss_cons (pset (i := 6) sc_in_order.nd (pe_lst pa_nil))
      (pss_cons (ps_for (passes_of rfl) rfl (pi_list (pv 5)) (pgn (i := 7) sc_in_order.nd)
      (pss_one (ps_if (pt_val (pe_callB (cr_all rfl) (by rfl) T.f_all (by decide +kernel) (pa_cons (pe_lc (own := [("pin", 8)]) (g := gName 8) (tt := tYes) rfl sc_in_order.nd (pi_tup (pe_ix ix_tup (pv 7) pe_int (fun _ _ => rfl))) (blkOk_by (N := N_in_order) (sc := defScope s_in_order) (by decide +kernel)) (fun _ _ _ _ _ => (pgn (i := 8) sc_in_order.nd)) (fun _ _ _ _ _ => pts_nil) (fun _ _ _ _ _ => (pe_cmp (pc_din hu1 (pv 8) (pv 2))))) pa_nil))) (pss_cons (ps_dput hu1 (pv 2) (pe_ix ix_tup (pv 7) pe_int (fun _ _ => rfl)) pe_bl rfl)
      (pss_one (ps_expr (pe_bm PySem.F.plainAttrs_list PySem.F.slot_list_append PySem.F.type_list_append mt_append (pv 4) (pa_cons (pv 7) pa_nil))))) (pss_one (ps_expr (pe_bm PySem.F.plainAttrs_list PySem.F.slot_list_append PySem.F.type_list_append mt_append (pv 6) (pa_cons (pv 7) pa_nil)))))))
      (pss_cons (ps_if (pt_cmpR op_eq (pe_callB cr_len (by rfl) T.f_len PySem.boot_len (pa_cons (pv 6) pa_nil)) (pe_callB cr_len (by rfl) T.f_len PySem.boot_len (pa_cons (pv 5) pa_nil)) (nomark _)) (pss_one (ps_raise rfl tk (pm_2 X_BadCircuit (hr.mono (by decide)) (pa_cons pe_str (pa_cons (pe_ix ix_tup (pe_ix ix_list (pv 6) pe_int (fun _ _ => rfl)) pe_int (fun _ _ => rfl)) pa_nil))))) pss_nil)
      (pss_one (pset (i := 5) sc_in_order.nd (pv 6)))))))
      (pss_one (ps_ret (pv 4))))))), ?_⟩
  rintro ds r ⟨src, gs, rfl, ⟨z1, z2, z3⟩, rfl⟩
  show Does P w K E _ [.d (.lst (src.map .str)), .d (.tup (gs.map Gt.d)), .u, .u, .u, .u, .u, .u, .u] _
  let Wn : List Str → List Gt → List Gt → En := fun k fo ws => [.d (.lst (src.map .str)), .d (.tup (gs.map Gt.d)), .ow none (.dk (kn k)), .x, .ow none (.lst (fo.map Gt.d)), .d (.lst (ws.map Gt.d)), .x, .x, .x]
  refine does_ord ?_
  refine se_seq (env1 := [.d (.lst (src.map .str)), .d (.tup (gs.map Gt.d)), .ow none (.dk (kn (src.foldl ins []))), .u, .u, .u, .u, .u, .u]) ?_ ?_
  · have h := po_dc (P := P) (w := w) (K := K) (tt := tYes) (ty := tVar 3) (te := tC (.bl true)) (g := gName 3) (wi := iList K (tVar 0)) (env := [.d (.lst (src.map .str)), .d (.tup (gs.map Gt.d)), .u, .u, .u, .u, .u, .u, .u]) (vs := [3]) src Dt.str (ip_list ep_var) (by omega) (fun _ => true) Sum.inr (fun _ => .bl true) fun i a h => ⟨_, gc_name, tp_yes, fun _ => ⟨ep_var, ep_bl⟩⟩
    rw [show (src.filter fun _ => true).foldl (fun q a => putD q (.inr a) (.bl true)) [] = kn (src.foldl ins []) from fold_kn src []] at h
    exact se_own (eo_p h)
  refine se_seq (se_own (en_p (np_lst ap_nil))) ?_
  refine se_seq (se_asg (d := .lst (gs.map Gt.d)) (ee_p (ep_new (np_cb (ap_cons ep_var ap_nil) rn_listT)))) ?_
  refine se_seqO (o1 := wIO E K Wn (order src gs)) (se_pre (env1 := Wn (src.foldl ins []) [] gs) (Le.s (Le.s (Le.s (Le.x (Le.s (Le.s (Le.x (Le.x (Le.x Le.nil))))))))) ?_) ?_
  · refine se_whileO (fun e => ∃ k fo ws, e = Wn k fo ws ∧ k.length ≤ 3000 + fo.length ∧ fo.length + ws.length ≤ 3000 ∧ (∀ g ∈ ws, g.ps.length ≤ 30000) ∧ ∃ n, ws.length ≤ n ∧ ordN n k fo ws = order src gs) wlen ?_ ⟨_, _, _, rfl, by have := foldins_len src []; simp at this; simp; omega, by simpa using z2, z3, gs.length, Nat.le_refl _, rfl⟩
    rintro e ⟨k, fo, ws, rfl, hk, hf, hp, n, hn, ho⟩
    refine ⟨_, te_p (tp_tru ep_var rfl), fun hb => ?_, fun hb => ?_⟩
    · obtain ⟨n, rfl⟩ : ∃ m, n = m + 1 := by
        cases n with
        | zero =>
          cases ws with
          | nil => cases hb
          | cons g r => simp at hn
        | succ n => exact ⟨n, rfl⟩
      have hne : ws ≠ [] := by rintro rfl; cases hb
      have hord : ordN (n + 1) k fo ws = if (opass k fo ws).le.length = ws.length then .error (((opass k fo ws).le.head?.map Gt.l).getD "") else ordN n (opass k fo ws).kn (opass k fo ws).fo (opass k fo ws).le := by
        cases ws with
        | nil => exact absurd rfl hne
        | cons g r => rfl
      obtain ⟨q1, q2, q3, q4⟩ := opass_len ws ⟨k, fo, []⟩
      have q1 : (opass k fo ws).fo.length + (opass k fo ws).le.length = fo.length + ws.length := by simpa [opass] using q1
      have q2 : fo.length ≤ (opass k fo ws).fo.length := q2.2
      have q3 : (opass k fo ws).kn.length + fo.length ≤ k.length + (opass k fo ws).fo.length := q3
      have q4 : ∀ g ∈ (opass k fo ws).le, g ∈ ws := fun g h => by simpa using q4 g h
      refine ⟨if (opass k fo ws).le.length = ws.length then wIO E K Wn (order src gs) else .nc (Wn (opass k fo ws).kn (opass k fo ws).fo (opass k fo ws).le), ?_, ?_⟩
      · refine se_seq (se_own (en_p (np_lst ap_nil))) ?_
        let En1 : Os → En := fun s => [.d (.lst (src.map .str)), .d (.tup (gs.map Gt.d)), .ow none (.dk (kn s.kn)), .x, .ow none (.lst (s.fo.map Gt.d)), .d (.lst (ws.map Gt.d)), .ow none (.lst (s.le.map Gt.d)), .x, .x]
        refine se_seq (env1 := En1 (opass k fo ws)) (se_fold ws Gt.d rfl (ip_list ep_var) En1 ostep (fun s pre => s.fo.length + s.le.length = fo.length + pre.length ∧ s.kn.length ≤ k.length + pre.length) ⟨k, fo, []⟩ ?_ ⟨by simp, by simp⟩ ?_) ?_
        · exact Le.s (Le.s (Le.s (Le.s (Le.s (Le.s (Le.s (Le.s (Le.s Le.nil))))))))
        · rintro s pre g post hx ⟨p1, p2⟩
          have hlen := congrArg List.length hx
          simp at hlen
          have hg : g ∈ ws := by rw [hx]; simp
          refine ⟨?_, _, ge_name, ?_⟩
          · unfold ostep
            have := ins_len s.kn g.l
            split <;> simp <;> omega
          · have item2 : ∀ {en : En}, en[7]? = some (.d g.d) → Ep P w K (tOp (rIxT K) (tVar 7) (tC (.int 2))) en (.tup (g.ps.map .str)) := fun h => ep_op (ep_var h) ep_int (itm (i := 2) rfl)
            have item0 : ∀ {en : En}, en[7]? = some (.d g.d) → Ep P w K (tOp (rIxT K) (tVar 7) (tC (.int 0))) en (.str g.l) := fun h => ep_op (ep_var h) ep_int (itm (i := 0) rfl)
            refine se_nc (se_le (se_if (b := g.ps.all fun p => decide (p ∈ s.kn)) (env1 := (En1 s).set 7 (.d g.d)) (te_p (tp_B (ep_is (ep_cb (ap_cons (ep_is (ep_new (np_mapT g.ps Dt.str (ip_tup (item2 rfl)) (by have := hp g hg; omega) (fun p => .bl (decide (p ∈ s.kn))) fun i p hip => ep_is (ep_din (kvs := kn s.kn) (k := .inr p) (edk_o rfl) ep_var) (by rw [val_kn]))) (e := .lst ((g.ps.map fun p => decide (p ∈ s.kn)).map .bl)) (by rw [List.map_map]; rfl)) ap_nil) rl_all) (by rw [List.all_map]; rfl)))) (o := .nx ((En1 (ostep s g)).set 7 (.d g.d))) (fun hb => ?_) (fun hb => ?_)) (Le.s (Le.s (Le.s (Le.s (Le.s (Le.s (Le.s (Le.x (Le.s Le.nil))))))))))
            · have e : ostep s g = ⟨ins s.kn g.l, s.fo ++ [g], s.le⟩ := if_pos hb
              rw [e]
              refine se_is (se_seq (se_dput (kvs := kn s.kn) (k := .inr g.l) (d := .bl true) (ee_p ep_bl) (item0 rfl) rfl (by rw [kn_len]; omega)) (se_app (xs := s.fo.map Gt.d) rfl (ee_p ep_var) rfl (by simp; omega))) ?_
              rw [put_kn]
              simp [En1]
            · have e : ostep s g = ⟨s.kn, s.fo, s.le ++ [g]⟩ := if_neg (by rw [hb]; exact Bool.false_ne_true)
              rw [e]
              refine se_is (se_app (xs := s.le.map Gt.d) rfl (ee_p ep_var) rfl (by simp; omega)) ?_
              simp [En1]
        · refine se_freeze (i := 6) (t' := none) (v := .lst ((opass k fo ws).le.map Gt.d)) rfl rfl ?_
          refine se_when (b := decide ((opass k fo ws).le.length = ws.length)) (te_p (tp_is (tp_test (ep_op (ep_cb (ap_cons (ep_var rfl) ap_nil) rl_len) (ep_cb (ap_cons (ep_var rfl) ap_nil) rl_len) r2_eqI)) ?_)) (fun hc => ?_) (fun hc => ?_)
          · rw [List.length_map, List.length_map]
            exact decide_eq_decide.mpr (by omega)
          · have hc := of_decide_eq_true hc
            rw [if_pos hc]
            have horder : order src gs = .error (((opass k fo ws).le.head?.map Gt.l).getD "") := by rw [← ho, hord, if_pos hc]
            rw [horder]
            cases hle : (opass k fo ws).le with
            | nil =>
              rw [hle] at hc
              exact absurd (List.length_eq_zero_iff.mp hc.symm) hne
            | cons g r =>
              refine se_seqF (se_lez (se_raise2 (d := .str "loop") (e := .str g.l) (ap_cons ep_str (ap_cons (ep_op (ep_op (d := .lst ((g :: r).map Gt.d)) (ep_var rfl) ep_int (itmL (i := 0) rfl)) ep_int (itm (i := 0) rfl)) ap_nil))) (le_x rfl))
          · have hc := of_decide_eq_false hc
            rw [if_neg hc]
            exact se_nc (se_le (se_asg (ee_p (ep_var rfl))) (Le.s (Le.s (Le.s (Le.s (Le.s (Le.s (Le.x (Le.s (Le.s Le.nil))))))))))
      · by_cases hc : (opass k fo ws).le.length = ws.length
        · rw [if_pos hc]
          have horder : order src gs = .error (((opass k fo ws).le.head?.map Gt.l).getD "") := by rw [← ho, hord, if_pos hc]
          rw [horder]
          exact .inr (.inl ⟨rfl, rfl, (fun _ z => nomatch z), (fun _ z => nomatch z)⟩)
        · rw [if_neg hc]
          refine .inl ⟨_, rfl, ⟨_, _, _, rfl, by omega, by omega, fun g h => hp g (q4 g h), n, by omega, by rw [← ho, hord, if_neg hc]⟩, ?_⟩
          show ((opass k fo ws).le.map Gt.d).length < (ws.map Gt.d).length
          simp
          omega
    · have hws : ws = [] := by
        cases ws with
        | nil => rfl
        | cons g r => cases hb
      subst hws
      have : order src gs = .ok (k, fo) := by rw [← ho]; cases n <;> rfl
      rw [this]
      rfl
  · cases order src gs with
    | ok l => exact .inl ⟨_, rfl, se_roV (t' := none) rfl⟩
    | error x => exact .inr ⟨rfl, rfl⟩
end
end CC
set_option maxHeartbeats 400000
namespace CC
open PySem PySem.Spec PyProof.Rows L2 Qw
open Evl hiding ea_cons
open Pw (Dt Rp RpL Wk R2d R1d RLd RLn Kq KqL truD flatD fl py pyL rangeD charsD spX2 Xm Xm0 tyD isI isB isS isTp isL rl_isInt rl_isBool rl_isStr rl_isTup rl_isList rl_int rl_max2 rl_min2 rl_len rl_lenT rl_tup rl_tupT rl_lenS rl_all rl_any rn_list rn_listT r2_I0 r2_B0 r2_eqI r2_neI r2_eqS r2_neS r2_eq r2_ne r2_I r2_inS r2_niS r2_in r2_inT r2_ixL r2_ixT r2_ixS r2_addS r2_eqD r2_neD r2_ixM r1_U ixN_at itemD cr_int cr_min2 cr_max2 cr_list cr_tuple cr_len pe_globI pe_globS pe_globR pe_tyname rTupS rInt1 rMin2)
local macro_rules | `(tactic| walk_at "side") => `(tactic| first
  | decide | omega | assumption | (show (0 : Int) < _; omega) | exact (show CDiv _ _ from ⟨by omega, by omega⟩) | exact (show CMul _ _ from Or.inr ⟨by omega, by omega⟩) | exact (show CMul _ _ from Or.inl ⟨by omega, by omega⟩) | exact (show CPow _ _ from ⟨by decide, by decide, by decide⟩))
local macro_rules | `(tactic| walk_at "op") => `(tactic| first
  | exact r2_I0 | exact r2_B0 | exact r2_eqI | exact r2_neI | exact r2_eqS | exact r2_neS
  | exact r2_eq rfl rfl rfl | exact r2_ne rfl rfl rfl
  | (refine' r2_I ?_; walk_at "side") | exact r2_inS | exact r2_niS)
local macro_rules | `(tactic| walk_at "rl") => `(tactic| first
  | exact rl_int | exact rl_max2 | exact rl_min2 | exact rl_len | exact rl_lenT | exact rl_isInt (by first | rfl | assumption) | exact rl_isBool (by first | rfl | assumption) | exact rl_isStr (by first | rfl | assumption) | exact rl_isTup (by first | rfl | assumption) | exact rl_isList (by first | rfl | assumption) | exact rl_tup | exact rl_tupT | (refine' rl_lenS ?_; walk_at "side"))
local macro_rules | `(tactic| walk_at "ap") => `(tactic| first
  | exact ap_nil
  | (refine' ap_cons ?eah ?eat; (case eah => walk_at "ep"); (case eat => walk_at "ap")))
local macro_rules | `(tactic| walk_at "ep") => `(tactic| first
  | exact ep_int | exact ep_bl | exact ep_str | exact ep_non | exact ep_ty | exact ep_var
  | (refine' ep_op ?eva ?evb ?evc; (case eva => walk_at "ep"); (case evb => walk_at "ep"); (case evc => walk_at "op"))
  | (refine' ep_cb ?evd ?eve; (case evd => walk_at "ap"); (case eve => walk_at "rl"))
  | (refine' ep_un ?evf r1_U; (case evf => walk_at "ep"))
  | (refine' ep_tup ?evg ?evi; (case evg => walk_at "ap"); (case evi => exact Nat.le_of_ble_eq_true rfl))
  | (refine' ep_lst ?evh ?evj; (case evh => walk_at "ap"); (case evj => exact Nat.le_of_ble_eq_true rfl))
  | assumption)
local macro_rules | `(tactic| walk_at "ee") => `(tactic| (refine' ee_p ?eep; (case eep => walk_at "ep")))
local macro_rules | `(tactic| walk_at "te") => `(tactic| (refine' te_p ?tep; (case tep => walk_at "tp")))
local macro_rules | `(tactic| walk_at "tp") => `(tactic| first
  | (refine' tp_test ?tea; (case tea => walk_at "ep"))
  | (refine' tp_B ?teb; (case teb => walk_at "ep"))
  | (refine' tp_not ?tec; (case tec => walk_at "tp"))
  | (refine' tp_or ?ted ?tee; (case ted => walk_at "tp"); (case tee => intro _; walk_at "tp"))
  | (refine' tp_and ?tef ?teg; (case tef => walk_at "tp"); (case teg => intro _; walk_at "tp"))
  | assumption)
section
variable {P : Program} {w : World} {K : PySem.W.Frag} {mg : Str → Option Value} {base : Heap}
abbrev RegT := Str × Str
def regD (r : RegT) : Dt := .tup [.str r.1, .str r.2]
def srcOf (is : List Str) (rs : List RegT) : List Str := is ++ rs.map Prod.fst
def linesOf (is : List Str) (rs : List RegT) (gs : List Gt) : List Str := srcOf is rs ++ gs.map Gt.l
def sinkOf (os : List Str) (rs : List RegT) : List Str := os ++ rs.map Prod.snd
/-- the parts, and what is far from any limit -/
structure Cp where
  is : List Str
  rs : List RegT
  gs : List Gt
  os : List Str
def Cp.ok (c : Cp) : Prop := c.is.length ≤ 1000 ∧ c.rs.length ≤ 1000 ∧ c.gs.length ≤ 1000 ∧ c.os.length ≤ 1000 ∧ ∀ g ∈ c.gs, g.ps.length ≤ 4
def CF : List Str := ["inputs", "registers", "gates", "outputs", "gate_of", "order"]
/-- an object that has the parts c among its fields -/
structure HasP (fs : List Str) (es : List Dt) (c : Cp) : Prop where
  i : (fs.zip es).lookup ("inputs" : Str) = some (Dt.tup (c.is.map .str))
  r : (fs.zip es).lookup ("registers" : Str) = some (Dt.tup (c.rs.map regD))
  g : (fs.zip es).lookup ("gates" : Str) = some (Dt.tup (c.gs.map Gt.d))
  o : (fs.zip es).lookup ("outputs" : Str) = some (Dt.tup (c.os.map .str))
  n : fs.contains ("sources" : Str) = false ∧ fs.contains ("lines" : Str) = false ∧ fs.contains ("sinks" : Str) = false ∧ fs.contains ("above" : Str) = false ∧ fs.contains ("parts" : Str) = false
def R_Circuit_sources (K : PySem.W.Frag) (ds : List Dt) (r : Rs) : Prop := ∃ fs es c, ds = [.obj (He.ga K "Circuit") fs es] ∧ HasP fs es c ∧ c.ok ∧ r = .o (.lst ((srcOf c.is c.rs).map .str))
def R_Circuit_lines (K : PySem.W.Frag) (ds : List Dt) (r : Rs) : Prop := ∃ fs es c, ds = [.obj (He.ga K "Circuit") fs es] ∧ HasP fs es c ∧ c.ok ∧ r = .o (.lst ((linesOf c.is c.rs c.gs).map .str))
def R_Circuit_sinks (K : PySem.W.Frag) (ds : List Dt) (r : Rs) : Prop := ∃ fs es c, ds = [.obj (He.ga K "Circuit") fs es] ∧ HasP fs es c ∧ c.ok ∧ r = .o (.lst ((sinkOf c.os c.rs).map .str))
def R_Circuit_parts (K : PySem.W.Frag) (ds : List Dt) (r : Rs) : Prop := ∃ fs es c, ds = [.obj (He.ga K "Circuit") fs es] ∧ HasP fs es c ∧ c.ok ∧ r = .d (.tup [.tup (c.is.map .str), .tup (c.rs.map regD), .tup (c.gs.map Gt.d), .tup (c.os.map .str)])
theorem l_Circuit_sources (K : PySem.W.Frag) (ds : List Dt) (r : Rs) (h : R_Circuit_sources K ds r) : ds.length = 1 := by
  obtain ⟨_, _, _, rfl, _⟩ := h
  rfl
theorem l_Circuit_lines (K : PySem.W.Frag) (ds : List Dt) (r : Rs) (h : R_Circuit_lines K ds r) : ds.length = 1 := by
  obtain ⟨_, _, _, rfl, _⟩ := h
  rfl
theorem l_Circuit_sinks (K : PySem.W.Frag) (ds : List Dt) (r : Rs) (h : R_Circuit_sinks K ds r) : ds.length = 1 := by
  obtain ⟨_, _, _, rfl, _⟩ := h
  rfl
theorem l_Circuit_parts (K : PySem.W.Frag) (ds : List Dt) (r : Rs) (h : R_Circuit_parts K ds r) : ds.length = 1 := by
  obtain ⟨_, _, _, rfl, _⟩ := h
  rfl
theorem Txt.na (T : Txt K mg) {f : Str} (h : f ∈ (["inputs", "registers", "gates", "outputs", "gate_of", "order"] : List Str) := by simp) : NoAttr K (He.ga K "Circuit") f := T.a_Circuit f h
theorem ep_reg {env : En} {i : Nat} {r : RegT} (h : env[i]? = some (.d (regD r))) : Ep P w K (tOp (rIxT K) (tVar i) (tC (.int 0))) env (.str r.1) ∧ Ep P w K (tOp (rIxT K) (tVar i) (tC (.int 1))) env (.str r.2) := ⟨ep_op (ep_var h) ep_int (itm (i := 0) rfl), ep_op (ep_var h) ep_int (itm (i := 1) rfl)⟩
theorem ep_gate {env : En} {i : Nat} {g : Gt} (h : env[i]? = some (.d g.d)) : Ep P w K (tOp (rIxT K) (tVar i) (tC (.int 0))) env (.str g.l) ∧ Ep P w K (tOp (rIxT K) (tVar i) (tC (.int 1))) env (.str g.k) ∧ Ep P w K (tOp (rIxT K) (tVar i) (tC (.int 2))) env (.tup (g.ps.map .str)) := ⟨ep_op (ep_var h) ep_int (itm (i := 0) rfl), ep_op (ep_var h) ep_int (itm (i := 1) rfl), ep_op (ep_var h) ep_int (itm (i := 2) rfl)⟩
abbrev N_Circuit_sources : List Str := ["self", "pair"]
theorem sc_Circuit_sources : FnScope N_Circuit_sources ["self"] (defScope s_Circuit_sources) := ⟨rfl, rfl, rfl, by decide +kernel, rfl, by decide +kernel, by decide +kernel⟩
theorem k_Circuit_sources (T : Txt K mg) (D : Dm K (He.ga K "Circuit") "sources" "Circuit.sources" ["self"] s_Circuit_sources)  : Mx P w K mg base 1 (He.ga K "Circuit") "sources" ["self"] (spR P w K (R_Circuit_sources K)) := by
  refine Mx.of D sc_Circuit_sources (l_Circuit_sources K) fun f cdv A outer s H E hr => ?_
  refine ⟨_, (pss_one (ps_ret (pe_lst (StX.pa_star (pe_fld (pv 0) rfl) (StX.pa_star (pe_lc (own := [("pair", 1)]) (g := gName 1) (tt := tYes) rfl sc_Circuit_sources.nd (pi_tup (pe_fld (pv 0) rfl)) (blkOk_by (N := N_Circuit_sources) (sc := defScope s_Circuit_sources) (by decide +kernel)) (fun _ _ _ _ _ => (pgn (i := 1) sc_Circuit_sources.nd)) (fun _ _ _ _ _ => pts_nil) (fun _ _ _ _ _ => (pe_ix (show IxR _ (rIxT K) from ix_tup) (pv 1) pe_int (fun _ _ => rfl)))) pa_nil))))), ?_⟩
  rintro ds r ⟨fs, es, c, rfl, hp, ⟨o1, o2, o3, o4, o5⟩, rfl⟩
  show Se P w K _ [.d _, .u] _
  refine se_is (se_ro (en_p (np_lst (ap_starT (ep_fld T.k_Circuit T.na ep_var hp.i) (ap_starL (ep_new (np_mapT c.rs regD (ip_tup (ep_fld T.k_Circuit T.na ep_var hp.r)) (by omega) (fun r => .str r.1) fun i r _ => (ep_reg rfl).1)) ap_nil)) (by simp; omega)))) ?_
  simp [srcOf]
abbrev N_Circuit_lines : List Str := ["self", "gate"]
theorem sc_Circuit_lines : FnScope N_Circuit_lines ["self"] (defScope s_Circuit_lines) := ⟨rfl, rfl, rfl, by decide +kernel, rfl, by decide +kernel, by decide +kernel⟩
theorem k_Circuit_lines (T : Txt K mg) (D : Dm K (He.ga K "Circuit") "lines" "Circuit.lines" ["self"] s_Circuit_lines)  (M_Circuit_sources : Mx P w K mg base 1 (He.ga K "Circuit") "sources" ["self"] (spR P w K (R_Circuit_sources K))) : Mx P w K mg base 2 (He.ga K "Circuit") "lines" ["self"] (spR P w K (R_Circuit_lines K)) := by
  refine Mx.of D sc_Circuit_lines (l_Circuit_lines K) fun f cdv A outer s H E hr => ?_
  refine ⟨_, (pss_one (ps_ret (pe_lst (StX.pa_star (pe_mx0 M_Circuit_sources T.k_Circuit (hr.mono (by decide)) (pv 0)) (StX.pa_star (pe_lc (own := [("gate", 1)]) (g := gName 1) (tt := tYes) rfl sc_Circuit_lines.nd (pi_tup (pe_fld (pv 0) rfl)) (blkOk_by (N := N_Circuit_lines) (sc := defScope s_Circuit_lines) (by decide +kernel)) (fun _ _ _ _ _ => (pgn (i := 1) sc_Circuit_lines.nd)) (fun _ _ _ _ _ => pts_nil) (fun _ _ _ _ _ => (pe_ix (show IxR _ (rIxT K) from ix_tup) (pv 1) pe_int (fun _ _ => rfl)))) pa_nil))))), ?_⟩
  rintro ds r ⟨fs, es, c, rfl, hp, hk, rfl⟩
  have ⟨o1, o2, o3, o4, o5⟩ := hk
  show Se P w K _ [.d _, .u] _
  refine se_is (se_ro (en_p (np_lst (ap_starL (po_dt (po_meth (u := .lst ((srcOf c.is c.rs).map .str)) ep_var ap_nil ⟨fs, es, c, rfl, hp, hk, rfl⟩ hp.n.1)) (ap_starL (ep_new (np_mapT c.gs Gt.d (ip_tup (ep_fld T.k_Circuit T.na ep_var hp.g)) (by omega) (fun g => .str g.l) fun i r _ => (ep_gate rfl).1)) ap_nil)) (by simp [srcOf]; omega)))) ?_
  simp [linesOf]
abbrev N_Circuit_sinks : List Str := ["self", "pair"]
theorem sc_Circuit_sinks : FnScope N_Circuit_sinks ["self"] (defScope s_Circuit_sinks) := ⟨rfl, rfl, rfl, by decide +kernel, rfl, by decide +kernel, by decide +kernel⟩
theorem k_Circuit_sinks (T : Txt K mg) (D : Dm K (He.ga K "Circuit") "sinks" "Circuit.sinks" ["self"] s_Circuit_sinks)  : Mx P w K mg base 1 (He.ga K "Circuit") "sinks" ["self"] (spR P w K (R_Circuit_sinks K)) := by
  refine Mx.of D sc_Circuit_sinks (l_Circuit_sinks K) fun f cdv A outer s H E hr => ?_
  refine ⟨_, (pss_one (ps_ret (pe_lst (StX.pa_star (pe_fld (pv 0) rfl) (StX.pa_star (pe_lc (own := [("pair", 1)]) (g := gName 1) (tt := tYes) rfl sc_Circuit_sinks.nd (pi_tup (pe_fld (pv 0) rfl)) (blkOk_by (N := N_Circuit_sinks) (sc := defScope s_Circuit_sinks) (by decide +kernel)) (fun _ _ _ _ _ => (pgn (i := 1) sc_Circuit_sinks.nd)) (fun _ _ _ _ _ => pts_nil) (fun _ _ _ _ _ => (pe_ix (show IxR _ (rIxT K) from ix_tup) (pv 1) pe_int (fun _ _ => rfl)))) pa_nil))))), ?_⟩
  rintro ds r ⟨fs, es, c, rfl, hp, ⟨o1, o2, o3, o4, o5⟩, rfl⟩
  show Se P w K _ [.d _, .u] _
  refine se_is (se_ro (en_p (np_lst (ap_starT (ep_fld T.k_Circuit T.na ep_var hp.o) (ap_starL (ep_new (np_mapT c.rs regD (ip_tup (ep_fld T.k_Circuit T.na ep_var hp.r)) (by omega) (fun r => .str r.2) fun i r _ => (ep_reg rfl).2)) ap_nil)) (by simp; omega)))) ?_
  simp [sinkOf]
abbrev N_Circuit_parts : List Str := ["self"]
theorem sc_Circuit_parts : FnScope N_Circuit_parts ["self"] (defScope s_Circuit_parts) := ⟨rfl, rfl, rfl, by decide +kernel, rfl, by decide +kernel, by decide +kernel⟩
theorem k_Circuit_parts (T : Txt K mg) (D : Dm K (He.ga K "Circuit") "parts" "Circuit.parts" ["self"] s_Circuit_parts)  : Mx P w K mg base 1 (He.ga K "Circuit") "parts" ["self"] (spR P w K (R_Circuit_parts K)) := by
  refine Mx.of D sc_Circuit_parts (l_Circuit_parts K) fun f cdv A outer s H E hr => ?_
  refine ⟨_, (pss_one (ps_ret (pe_tup (pa_cons (pe_fld (pv 0) rfl) (pa_cons (pe_fld (pv 0) rfl) (pa_cons (pe_fld (pv 0) rfl) (pa_cons (pe_fld (pv 0) rfl) pa_nil))))))), ?_⟩
  rintro ds r ⟨fs, es, c, rfl, hp, ⟨o1, o2, o3, o4, o5⟩, rfl⟩
  left
  show Se P w K _ [.d _] _
  exact se_ret (ee_p (ep_tup (ap_cons (ep_fld T.k_Circuit T.na ep_var hp.i) (ap_cons (ep_fld T.k_Circuit T.na ep_var hp.r) (ap_cons (ep_fld T.k_Circuit T.na ep_var hp.g) (ap_cons (ep_fld T.k_Circuit T.na ep_var hp.o) ap_nil))))))
end
end CC
set_option maxHeartbeats 400000
namespace CC
open PySem PySem.Spec PyProof.Rows L2 Qw
open Evl hiding ea_cons
open Pw (Dt Rp RpL Wk R2d R1d RLd RLn Kq KqL truD flatD fl py pyL rangeD charsD spX2 Xm Xm0 tyD isI isB isS isTp isL rl_isInt rl_isBool rl_isStr rl_isTup rl_isList rl_int rl_max2 rl_min2 rl_len rl_lenT rl_tup rl_tupT rl_lenS rl_all rl_any rn_list rn_listT r2_I0 r2_B0 r2_eqI r2_neI r2_eqS r2_neS r2_eq r2_ne r2_I r2_inS r2_niS r2_in r2_inT r2_ixL r2_ixT r2_ixS r2_addS r2_eqD r2_neD r2_ixM r1_U ixN_at itemD cr_int cr_min2 cr_max2 cr_list cr_tuple cr_len pe_globI pe_globS pe_globR pe_tyname rTupS rInt1 rMin2)
local macro_rules | `(tactic| walk_at "side") => `(tactic| first
  | decide | omega | assumption | (show (0 : Int) < _; omega) | exact (show CDiv _ _ from ⟨by omega, by omega⟩) | exact (show CMul _ _ from Or.inr ⟨by omega, by omega⟩) | exact (show CMul _ _ from Or.inl ⟨by omega, by omega⟩) | exact (show CPow _ _ from ⟨by decide, by decide, by decide⟩))
local macro_rules | `(tactic| walk_at "op") => `(tactic| first
  | exact r2_I0 | exact r2_B0 | exact r2_eqI | exact r2_neI | exact r2_eqS | exact r2_neS
  | exact r2_eq rfl rfl rfl | exact r2_ne rfl rfl rfl
  | (refine' r2_I ?_; walk_at "side") | exact r2_inS | exact r2_niS)
local macro_rules | `(tactic| walk_at "rl") => `(tactic| first
  | exact rl_int | exact rl_max2 | exact rl_min2 | exact rl_len | exact rl_lenT | exact rl_isInt (by first | rfl | assumption) | exact rl_isBool (by first | rfl | assumption) | exact rl_isStr (by first | rfl | assumption) | exact rl_isTup (by first | rfl | assumption) | exact rl_isList (by first | rfl | assumption) | exact rl_tup | exact rl_tupT | (refine' rl_lenS ?_; walk_at "side"))
local macro_rules | `(tactic| walk_at "ap") => `(tactic| first
  | exact ap_nil
  | (refine' ap_cons ?eah ?eat; (case eah => walk_at "ep"); (case eat => walk_at "ap")))
local macro_rules | `(tactic| walk_at "ep") => `(tactic| first
  | exact ep_int | exact ep_bl | exact ep_str | exact ep_non | exact ep_ty | exact ep_var
  | (refine' ep_op ?eva ?evb ?evc; (case eva => walk_at "ep"); (case evb => walk_at "ep"); (case evc => walk_at "op"))
  | (refine' ep_cb ?evd ?eve; (case evd => walk_at "ap"); (case eve => walk_at "rl"))
  | (refine' ep_un ?evf r1_U; (case evf => walk_at "ep"))
  | (refine' ep_tup ?evg ?evi; (case evg => walk_at "ap"); (case evi => exact Nat.le_of_ble_eq_true rfl))
  | (refine' ep_lst ?evh ?evj; (case evh => walk_at "ap"); (case evj => exact Nat.le_of_ble_eq_true rfl))
  | assumption)
local macro_rules | `(tactic| walk_at "ee") => `(tactic| (refine' ee_p ?eep; (case eep => walk_at "ep")))
local macro_rules | `(tactic| walk_at "te") => `(tactic| (refine' te_p ?tep; (case tep => walk_at "tp")))
local macro_rules | `(tactic| walk_at "tp") => `(tactic| first
  | (refine' tp_test ?tea; (case tea => walk_at "ep"))
  | (refine' tp_B ?teb; (case teb => walk_at "ep"))
  | (refine' tp_not ?tec; (case tec => walk_at "tp"))
  | (refine' tp_or ?ted ?tee; (case ted => walk_at "tp"); (case tee => intro _; walk_at "tp"))
  | (refine' tp_and ?tef ?teg; (case tef => walk_at "tp"); (case teg => intro _; walk_at "tp"))
  | assumption)
section
variable {P : Program} {w : World} {K : PySem.W.Frag} {mg : Str → Option Value} {base : Heap}
def formOk (is rs gs os : List Dt) : Bool := is.all isName && (os.all isName && (rs.all isReg && gs.all isGate))
def gmap (gs : List Gt) : KD := gs.map fun g => (Sum.inr g.l, g.d)
def circE (c : Cp) (ord : List Gt) : List Dt := [.tup (c.is.map .str), .tup (c.rs.map regD), .tup (c.gs.map Gt.d), .tup (c.os.map .str), dk (gmap c.gs), .lst (ord.map Gt.d)]
def usesOf (c : Cp) : List Str := (c.gs.flatMap Gt.ps ++ c.rs.map Prod.snd) ++ c.os
def ordI (K : PySem.W.Frag) (c : Cp) : Except Str (List Str × List Gt) → Ri
  | .ok l => .f CF (circE c l.2)
  | .error x => .x (badC K "loop" x)
def sizeI (K : PySem.W.Frag) (c : Cp) : Ri := if (linesOf c.is c.rs c.gs).length ≤ 400 ∧ (srcOf c.is c.rs).length ≤ 40 then ordI K c (order (srcOf c.is c.rs) c.gs) else .x (badC K "size" "")
def orI (f : Str → Xn) (z : Ri) : Option Str → Ri
  | none => z
  | some x => .x (f x)
def initR (K : PySem.W.Frag) (c : Cp) : Ri := orI (badC K "twice") (orI (badC K "unknown") (sizeI K c) ((usesOf c).find? fun y => !decide (y ∈ linesOf c.is c.rs c.gs))) (dupOf [] (linesOf c.is c.rs c.gs))
def seqOf (a : Dt) (xs : List Dt) : Prop := a = .tup xs ∨ a = .lst xs
def R_Circuit_init (K : PySem.W.Frag) (ds : List Dt) (r : Ri) : Prop := ∃ a1 a2 a3 a4 is rs gs os, ds = [a1, a2, a3, a4] ∧ (seqOf a1 is ∧ seqOf a2 rs ∧ seqOf a3 gs ∧ seqOf a4 os) ∧ (is.length ≤ 1000 ∧ rs.length ≤ 1000 ∧ gs.length ≤ 1000 ∧ os.length ≤ 1000) ∧ (is.all okS = true ∧ rs.all okR = true ∧ gs.all okG = true ∧ os.all okS = true) ∧
  ((formOk is rs gs os = false ∧ r = .x (badC K "form" "")) ∨ (formOk is rs gs os = true ∧ ∃ c : Cp, is = c.is.map .str ∧ rs = c.rs.map regD ∧ gs = c.gs.map Gt.d ∧ os = c.os.map .str ∧ c.ok ∧ r = initR K c))
theorem l_Circuit_init (K : PySem.W.Frag) (ds : List Dt) (r : Ri) (h : R_Circuit_init K ds r) : ds.length + 1 = 5 := by
  obtain ⟨_, _, _, _, _, _, _, _, rfl, _⟩ := h
  rfl
def iOut (E : XK) (C p : Addr) : Ri → Out
  | .f fs es => .nx (.ow (some p) (.ins C fs es) :: List.replicate 9 .x)
  | .x y => .rz (fun cls d _ H => E cls d H) y (List.replicate 10 .x)
theorem does_i {E : XK} {C p : Addr} {s : TS} {env : En} {r : Ri} (h : Se P w K s env (iOut E C p r)) : DoesI P w K E C p s env r := by
  cases r with
  | f fs es => exact ⟨_, rfl, h⟩
  | x y => exact ⟨_, h⟩
theorem ep_tuple {env : En} {i : Nat} {a : Dt} {xs : List Dt} (hi : env[i]? = some (.d a)) (h : seqOf a xs) : Ep P w K (tCB (rTupS K) (tCons (tVar i) tNil)) env (.tup xs) := by
  rcases h with rfl | rfl
  · exact ep_cb (ap_cons (ep_var hi) ap_nil) rl_tupT
  · exact ep_cb (ap_cons (ep_var hi) ap_nil) rl_tup
def rsOut (E : XK) (env : En) : Rs → Out
  | .x y => .rz (fun cls d _ H => E cls d H) y (List.replicate env.length .x)
  | _ => .nx env
/-- a check called as a statement -/
theorem se_chk {E : XK} {env : En} {tA : TA} {ds : List Dt} {R : List Dt → Rs → Prop} {r : Rs} (h : EpA P w K tA env ds) (hf : R ds r) (hr : ∀ u, r ≠ .o u) : Se P w K (tDrop (tCallS (spR P w K R) (WE fun cls d _ H => E cls d H) tA)) env (rsOut E env r) := by
  cases r with
  | d d => exact se_drop (ee_p (ep_callS h hf))
  | o u => exact absurd rfl (hr u)
  | x y => exact se_lez (se_dropX (er_callS h hf)) (le_x rfl)
theorem orX_no {f : Str → Xn} {o : Option Str} (u : Ow) : orX f o ≠ .o u := by
  cases o <;> intro z <;> cases z
theorem nodup_of : ∀ (xs seen : List Str), seen.Nodup → dupOf seen xs = none → (seen ++ xs).Nodup
  | [], seen, hs, _ => by simpa using hs
  | a :: xs, seen, hs, h => by
    have hd : ¬ a ∈ seen := fun e => by simp [dupOf, e] at h
    have h' : dupOf (seen ++ [a]) xs = none := by simpa [dupOf, hd] using h
    have := nodup_of xs (seen ++ [a]) (by
      rw [List.nodup_append]
      exact ⟨hs, by simp, fun x hx y hy => by
        simp at hy
        subst hy
        exact fun e => hd (e ▸ hx)⟩) h'
    simpa [List.append_assoc] using this
theorem put_new {kvs : KD} {k : Key} {d : Dt} (h : ∀ p ∈ kvs, p.1 ≠ k) : putD kvs k d = kvs ++ [(k, d)] := by
  unfold putD
  rw [if_neg]
  intro z
  obtain ⟨p, hp, e⟩ := List.any_eq_true.mp z
  exact h p hp (of_decide_eq_true e)
theorem gmap_fold : ∀ (gs pre : List Gt), ((pre ++ gs).map Gt.l).Nodup → (gs.filter fun _ => true).foldl (fun q g => putD q (.inr g.l) g.d) (gmap pre) = gmap (pre ++ gs) := by
  intro gs
  rw [show gs.filter (fun _ => true) = gs by simp]
  induction gs with
  | nil => intro pre _; simp
  | cons g gs ih =>
    intro pre h
    rw [List.foldl_cons, put_new]
    · have e : gmap pre ++ [((Sum.inr g.l : Key), g.d)] = gmap (pre ++ [g]) := by simp [gmap]
      rw [e, ih (pre ++ [g]) (by simpa [List.append_assoc] using h)]
      simp
    · intro p hp e
      obtain ⟨g', hg', rfl⟩ := List.mem_map.mp hp
      have e' : g'.l = g.l := Sum.inr.inj e
      rw [List.map_append, List.nodup_append] at h
      exact h.2.2 g'.l (List.mem_map_of_mem hg') g.l (by simp) e'
set_option maxHeartbeats 4000000
abbrev N_Circuit_init : List Str := ["self", "inputs", "registers", "gates", "outputs", "pins", "gate", "pin", "taken", "pair"]
theorem sc_Circuit_init : FnScope N_Circuit_init ["self", "inputs", "registers", "gates", "outputs"] (defScope s_Circuit_init) := ⟨rfl, rfl, rfl, by decide +kernel, rfl, by decide +kernel, by decide +kernel⟩
theorem k_Circuit_init (T : Txt K mg) (D : Di K mg (He.ga K "Circuit") "Circuit" "Circuit.__init__" ["self", "inputs", "registers", "gates", "outputs"] s_Circuit_init)  (G__check_form : Fx P w K mg base 4 "_check_form" ["inputs", "registers", "gates", "outputs"] (spR P w K (R_check_form K))) (G__check_driven_once : Fx P w K mg base 3 "_check_driven_once" ["lines"] (spR P w K (R_check_driven_once K))) (M_Circuit_lines : Mx P w K mg base 2 (He.ga K "Circuit") "lines" ["self"] (spR P w K (R_Circuit_lines K))) (G__check_known : Fx P w K mg base 3 "_check_known" ["lines", "names"] (spR P w K (R_check_known K))) (G__check_size : Fx P w K mg base 3 "_check_size" ["lines", "sources"] (spR P w K (R_check_size K))) (M_Circuit_sources : Mx P w K mg base 1 (He.ga K "Circuit") "sources" ["self"] (spR P w K (R_Circuit_sources K))) (G__in_order : Fx P w K mg base 3 "_in_order" ["sources", "gates"] (spR P w K (R_in_order K))) : Ix P w K mg base 5 (He.ga K "Circuit") "Circuit" ["self", "inputs", "registers", "gates", "outputs"] (spI P w K (He.ga K "Circuit") (R_Circuit_init K)) := by
  refine Ix.of D sc_Circuit_init (l_Circuit_init K) fun f cdv A outer s H E hr tk => ?_
  refine ⟨_, (pss_cons (ps_fld (pv 0) (pe_callTy cr_tuple (by rfl) T.f_tuple (by decide +kernel) (pa_cons (pv 1) pa_nil)) rfl)
      (pss_cons (ps_fld (pv 0) (pe_callTy cr_tuple (by rfl) T.f_tuple (by decide +kernel) (pa_cons (pv 2) pa_nil)) rfl)
      (pss_cons (ps_fld (pv 0) (pe_callTy cr_tuple (by rfl) T.f_tuple (by decide +kernel) (pa_cons (pv 3) pa_nil)) rfl)
      (pss_cons (ps_fld (pv 0) (pe_callTy cr_tuple (by rfl) T.f_tuple (by decide +kernel) (pa_cons (pv 4) pa_nil)) rfl)
      (pss_cons (ps_expr (pe_fxS G__check_form (hr.mono (by decide)) tk (pa_cons (pe_fld (pv 0) rfl) (pa_cons (pe_fld (pv 0) rfl) (pa_cons (pe_fld (pv 0) rfl) (pa_cons (pe_fld (pv 0) rfl) pa_nil))))))
      (pss_cons (ps_expr (pe_fxS G__check_driven_once (hr.mono (by decide)) tk (pa_cons (pe_mx0 M_Circuit_lines T.k_Circuit (hr.mono (by decide)) (pv 0)) pa_nil)))
      (pss_cons (ps_setLc2 (i := 5) (own := [("gate", 6), ("pin", 7)]) (vs1 := [7]) (g := gName 6) (g1 := gName 7) (tt := tYes) (tt1 := tYes) rfl sc_Circuit_init.nd rfl rfl (sw_true rfl rfl rfl (by decide +kernel)) (pi_tup (pe_fld (pv 0) rfl)) (blkOk_by (N := N_Circuit_init) (sc := defScope s_Circuit_init) (by decide +kernel)) (by decide) (fun _ _ _ _ _ => (pgn (i := 6) sc_Circuit_init.nd)) (fun _ _ _ _ _ => pts_nil) (fun _ _ _ _ _ => (show PI _ _ _ (iTup K _) from (pi_tup (pe_ix (show IxR _ (rIxT K) from ix_tup) (pv 6) pe_int (fun _ _ => rfl))))) (fun _ _ _ _ _ => (pgn (i := 7) sc_Circuit_init.nd)) (fun _ _ _ _ _ => pts_nil) (fun _ _ _ _ _ => (pv 7)))
      (pss_cons (ps_setLc (i := 8) (own := [("pair", 9)]) (g := gName 9) (tt := tYes) rfl sc_Circuit_init.nd rfl rfl (sw_true rfl rfl rfl (by decide +kernel)) (pi_tup (pe_fld (pv 0) rfl)) (blkOk_by (N := N_Circuit_init) (sc := defScope s_Circuit_init) (by decide +kernel)) (fun _ _ _ _ _ => (pgn (i := 9) sc_Circuit_init.nd)) (fun _ _ _ _ _ => pts_nil) (fun _ _ _ _ _ => (pe_ix (show IxR _ (rIxT K) from ix_tup) (pv 9) pe_int (fun _ _ => rfl))))
      (pss_cons (ps_expr (pe_fxS G__check_known (hr.mono (by decide)) tk (pa_cons (pe_mx0 M_Circuit_lines T.k_Circuit (hr.mono (by decide)) (pv 0)) (pa_cons (pe_lst (StX.pa_star (pv 5) (StX.pa_star (pv 8) (StX.pa_star (pe_fld (pv 0) rfl) pa_nil)))) pa_nil))))
      (pss_cons (ps_expr (pe_fxS G__check_size (hr.mono (by decide)) tk (pa_cons (pe_mx0 M_Circuit_lines T.k_Circuit (hr.mono (by decide)) (pv 0)) (pa_cons (pe_mx0 M_Circuit_sources T.k_Circuit (hr.mono (by decide)) (pv 0)) pa_nil))))
      (pss_cons (ps_fld (pv 0) (pe_dc (own := [("gate", 6)]) (g := gName 6) (tt := tYes) rfl sc_Circuit_init.nd (pi_tup (pe_fld (pv 0) rfl)) (blkOk_by (N := N_Circuit_init) (sc := defScope s_Circuit_init) (by decide +kernel)) (fun _ _ _ _ _ => (pgn (i := 6) sc_Circuit_init.nd)) (fun _ _ _ _ _ => pts_nil) (fun _ _ _ _ _ => (pe_ix (show IxR _ (rIxT K) from ix_tup) (pv 6) pe_int (fun _ _ => rfl))) (fun _ _ _ _ _ => (pv 6))) rfl)
      (pss_one (ps_fld (pv 0) (pe_fxS G__in_order (hr.mono (by decide)) tk (pa_cons (pe_mx0 M_Circuit_sources T.k_Circuit (hr.mono (by decide)) (pv 0)) (pa_cons (pe_fld (pv 0) rfl) pa_nil))) rfl))))))))))))), ?_⟩
  rintro p ds r ⟨a1, a2, a3, a4, is, rs, gs, os, rfl, ⟨s1, s2, s3, s4⟩, ⟨n1, n2, n3, n4⟩, ⟨o1, o2, o3, o4⟩, hr⟩
  refine does_i ?_
  show Se P w K _ [.ow (some p) (.ins (He.ga K "Circuit") [] []), .d a1, .d a2, .d a3, .d a4, .u, .u, .u, .u, .u] _
  refine se_seq (se_fldN T.k_Circuit T.na (ee_p (ep_tuple rfl s1))) ?_
  refine se_seq (se_fldN T.k_Circuit T.na (ee_p (ep_tuple rfl s2))) ?_
  refine se_seq (se_fldN T.k_Circuit T.na (ee_p (ep_tuple rfl s3))) ?_
  refine se_seq (se_fldN T.k_Circuit T.na (ee_p (ep_tuple rfl s4))) ?_
  show Se P w K _ [.ow (some p) (.ins (He.ga K "Circuit") ["inputs", "registers", "gates", "outputs"] [.tup is, .tup rs, .tup gs, .tup os]), .d a1, .d a2, .d a3, .d a4, .u, .u, .u, .u, .u] _
  have fi : ∀ {en : En}, en[0]? = some (.ow (some p) (.ins (He.ga K "Circuit") ["inputs", "registers", "gates", "outputs"] [.tup is, .tup rs, .tup gs, .tup os])) → Ep P w K (tFld K (tVar 0) "inputs") en (.tup is) ∧ Ep P w K (tFld K (tVar 0) "registers") en (.tup rs) ∧ Ep P w K (tFld K (tVar 0) "gates") en (.tup gs) ∧ Ep P w K (tFld K (tVar 0) "outputs") en (.tup os) := fun h => ⟨ep_fldO T.k_Circuit T.na h rfl, ep_fldO T.k_Circuit T.na h rfl, ep_fldO T.k_Circuit T.na h rfl, ep_fldO T.k_Circuit T.na h rfl⟩
  refine se_seqO (se_chk (ap_cons (fi rfl).1 (ap_cons (fi rfl).2.1 (ap_cons (fi rfl).2.2.1 (ap_cons (fi rfl).2.2.2 ap_nil)))) ⟨is, rs, gs, os, rfl, ⟨by omega, by omega, by omega, by omega⟩, ⟨o1, o2, o3, o4⟩, rfl⟩ (fun u => by split <;> intro z <;> cases z)) ?_
  rcases hr with ⟨hf, rfl⟩ | ⟨hf, c, rfl, rfl, rfl, rfl, hok, rfl⟩
  · right
    unfold formOk at hf
    rw [if_neg (by rw [hf]; exact Bool.false_ne_true)]
    exact ⟨rfl, rfl⟩
  left
  unfold formOk at hf
  rw [if_pos hf]
  refine ⟨_, rfl, ?_⟩
  have ⟨b1, b2, b3, b4, b5⟩ := hok
  have hP : HasP ["inputs", "registers", "gates", "outputs"] [.tup (c.is.map .str), .tup (c.rs.map regD), .tup (c.gs.map Gt.d), .tup (c.os.map .str)] c := ⟨rfl, rfl, rfl, rfl, by decide +kernel⟩
  have eL : ∀ {en : En}, en[0]? = some (.ow (some p) (.ins (He.ga K "Circuit") ["inputs", "registers", "gates", "outputs"] [.tup (c.is.map .str), .tup (c.rs.map regD), .tup (c.gs.map Gt.d), .tup (c.os.map .str)])) → Ep P w K (tMeth (He.ga K "Circuit") "lines" (spR P w K (R_Circuit_lines K)) [] E0 (tVar 0) tNil) en (.lst ((linesOf c.is c.rs c.gs).map .str)) := fun h => po_dt (po_methL (zs := (linesOf c.is c.rs c.gs).map .str) h ⟨_, _, c, rfl, hP, hok, rfl⟩ (flat_strsD _))
  have eS : ∀ {en : En}, en[0]? = some (.ow (some p) (.ins (He.ga K "Circuit") ["inputs", "registers", "gates", "outputs"] [.tup (c.is.map .str), .tup (c.rs.map regD), .tup (c.gs.map Gt.d), .tup (c.os.map .str)])) → Ep P w K (tMeth (He.ga K "Circuit") "sources" (spR P w K (R_Circuit_sources K)) [] E0 (tVar 0) tNil) en (.lst ((srcOf c.is c.rs).map .str)) := fun h => po_dt (po_methL (zs := (srcOf c.is c.rs).map .str) h ⟨_, _, c, rfl, hP, hok, rfl⟩ (flat_strsD _))
  have hll : (linesOf c.is c.rs c.gs).length ≤ 3000 := by simp [linesOf, srcOf]; omega
  refine se_seqO (se_chk (ap_cons (eL rfl) ap_nil) ⟨_, rfl, hll, rfl⟩ orX_no) ?_
  cases hd : dupOf [] (linesOf c.is c.rs c.gs) with
  | some x =>
    right
    refine ⟨rfl, ?_⟩
    unfold initR
    rw [hd]
    rfl
  | none =>
    left
    refine ⟨_, rfl, ?_⟩
    have htot : ((c.gs.flatMap fun g => g.ps.map Dt.str)).length ≤ 40000 := by
      have : ∀ l : List Gt, (∀ g ∈ l, g.ps.length ≤ 4) → (l.flatMap fun g => g.ps.map Dt.str).length ≤ 4 * l.length := by
        intro l
        induction l with
        | nil => intro _; simp
        | cons g l ih =>
          intro h
          have h1 := ih fun x hx => h x (by simp [hx])
          have h2 := h g (by simp)
          simp only [List.flatMap_cons, List.length_append, List.length_map, List.length_cons]
          omega
      have := this c.gs b5
      omega
    refine se_seq (se_asg (d := .lst ((c.gs.flatMap Gt.ps).map .str)) (ee_p (ep_new (by
      have h := np_lc2T (P := P) (w := w) (K := K) (te := tVar 7) (g := gName 6) (g1 := gName 7) (vs := [6, 7]) (vs1 := [7]) (wi := iTup K (tFld K (tVar 0) "gates")) (wi1 := iTup K (tOp (rIxT K) (tVar 6) (tC (.int 2)))) (env := [.ow (some p) (.ins (He.ga K "Circuit") ["inputs", "registers", "gates", "outputs"] [.tup (c.is.map .str), .tup (c.rs.map regD), .tup (c.gs.map Gt.d), .tup (c.os.map .str)]), .d a1, .d a2, .d a3, .d a4, .u, .u, .u, .u, .u]) c.gs Gt.d (ip_tup (fi rfl).2.2.1) (fun g => g.ps.map .str) htot id fun i g hg => ⟨_, fun F0 H0 F H σ v S r Q q => q _ (by simp only [L2.wipe]; apply List.ext_getElem?; intro i; simp only [List.getElem?_set, List.length_set]; by_cases e1 : 6 = i <;> by_cases e2 : 7 = i <;> simp [e1, e2]) (fun _ h => own_set h) (S.setD r), ip_tup (ep_gate rfl).2.2, fun d hd => ⟨_, gc_name, ep_var⟩⟩
      rw [List.map_id] at h
      have e : (c.gs.flatMap fun g => g.ps.map Dt.str) = (c.gs.flatMap Gt.ps).map Dt.str := by rw [List.map_flatMap]
      rw [e] at h
      exact h)))) ?_
    refine se_seq (se_asg (d := .lst (c.rs.map fun (r : RegT) => Dt.str r.2)) (ee_p (ep_new (np_mapT c.rs regD (ip_tup (fi rfl).2.1) (by omega) (fun r => .str r.2) fun i r _ => (ep_reg rfl).2)))) ?_
    show Se P w K _ [.ow (some p) (.ins (He.ga K "Circuit") ["inputs", "registers", "gates", "outputs"] [.tup (c.is.map .str), .tup (c.rs.map regD), .tup (c.gs.map Gt.d), .tup (c.os.map .str)]), .d a1, .d a2, .d a3, .d a4, .d (.lst ((c.gs.flatMap Gt.ps).map .str)), .u, .u, .d (.lst (c.rs.map fun (r : RegT) => Dt.str r.2)), .u] _
    have hu2 : (usesOf c).length ≤ 40000 := by
      have e : (c.gs.flatMap Gt.ps).length = (c.gs.flatMap fun g => g.ps.map Dt.str).length := by
        rw [show (c.gs.flatMap fun g => g.ps.map Dt.str) = (c.gs.flatMap Gt.ps).map Dt.str by rw [List.map_flatMap], List.length_map]
      have h4 : (c.gs.flatMap fun g => g.ps.map Dt.str).length ≤ 4000 := by
        have : ∀ l : List Gt, (∀ g ∈ l, g.ps.length ≤ 4) → (l.flatMap fun g => g.ps.map Dt.str).length ≤ 4 * l.length := by
          intro l
          induction l with
          | nil => intro _; simp
          | cons g l ih =>
            intro h
            have h1 := ih fun x hx => h x (by simp [hx])
            have h2 := h g (by simp)
            simp only [List.flatMap_cons, List.length_append, List.length_map, List.length_cons]
            omega
        have := this c.gs b5
        omega
      simp only [usesOf, List.length_append, List.length_map]
      omega
    refine se_seqO (se_chk (ap_cons (eL rfl) (ap_cons (d := .lst ((usesOf c).map .str)) (ep_is (ep_lst (ap_starL ep_var (ap_starL ep_var (ap_starT (fi rfl).2.2.2 ap_nil))) (by
      have := hu2
      simp only [usesOf, List.length_append, List.length_map] at this
      simp only [List.length_append, List.length_map, List.length_nil]
      omega)) (by simp [usesOf])) ap_nil)) ⟨_, _, rfl, hll, hu2, rfl⟩ orX_no) ?_
    cases hk : (usesOf c).find? fun y => !decide (y ∈ linesOf c.is c.rs c.gs) with
    | some x =>
      right
      refine ⟨rfl, ?_⟩
      unfold initR
      rw [hd, hk]
      rfl
    | none =>
      left
      refine ⟨_, rfl, ?_⟩
      refine se_seqO (se_chk (ap_cons (eL rfl) (ap_cons (eS rfl) ap_nil)) ⟨_, _, rfl, rfl⟩ (fun u => by split <;> intro z <;> cases z)) ?_
      rw [List.length_map, List.length_map]
      by_cases hz : (linesOf c.is c.rs c.gs).length ≤ 400 ∧ (srcOf c.is c.rs).length ≤ 40
      · left
        rw [if_pos hz]
        refine ⟨_, rfl, ?_⟩
        have nd := nodup_of _ [] List.nodup_nil hd
        have nd2 : (c.gs.map Gt.l).Nodup := by
          have : (linesOf c.is c.rs c.gs).Nodup := by simpa using nd
          unfold linesOf at this
          rw [List.nodup_append] at this
          exact this.2.1
        refine se_seq (se_fldN (d := dk (gmap c.gs)) T.k_Circuit T.na (ee_p (po_dt (by
          have h := po_dc (P := P) (w := w) (K := K) (tt := tYes) (ty := tOp (rIxT K) (tVar 6) (tC (.int 0))) (te := tVar 6) (g := gName 6) (wi := iTup K (tFld K (tVar 0) "gates")) (env := [.ow (some p) (.ins (He.ga K "Circuit") ["inputs", "registers", "gates", "outputs"] [.tup (c.is.map .str), .tup (c.rs.map regD), .tup (c.gs.map Gt.d), .tup (c.os.map .str)]), .d a1, .d a2, .d a3, .d a4, .d (.lst ((c.gs.flatMap Gt.ps).map .str)), .u, .u, .d (.lst (c.rs.map fun (r : RegT) => Dt.str r.2)), .u]) (vs := [6]) c.gs Gt.d (ip_tup (fi rfl).2.2.1) (by omega) (fun _ => true) (fun g => Sum.inr g.l) (fun g => g.d) fun i a h => ⟨_, gc_name, tp_yes, fun _ => ⟨(ep_gate rfl).1, ep_var⟩⟩
          rw [show (c.gs.filter fun _ => true).foldl (fun q g => putD q (Sum.inr g.l) g.d) [] = gmap c.gs from gmap_fold c.gs [] (by simpa using nd2)] at h
          exact h)))) ?_
        have hP5 : HasP ["inputs", "registers", "gates", "outputs", "gate_of"] [.tup (c.is.map .str), .tup (c.rs.map regD), .tup (c.gs.map Gt.d), .tup (c.os.map .str), dk (gmap c.gs)] c := ⟨rfl, rfl, rfl, rfl, by decide +kernel⟩
        have args : EpA P w K (tCons (tMeth (He.ga K "Circuit") "sources" (spR P w K (R_Circuit_sources K)) [] E0 (tVar 0) tNil) (tCons (tFld K (tVar 0) "gates") tNil)) [.ow (some p) (.ins (He.ga K "Circuit") ["inputs", "registers", "gates", "outputs", "gate_of"] [.tup (c.is.map .str), .tup (c.rs.map regD), .tup (c.gs.map Gt.d), .tup (c.os.map .str), dk (gmap c.gs)]), .d a1, .d a2, .d a3, .d a4, .d (.lst ((c.gs.flatMap Gt.ps).map .str)), .u, .u, .d (.lst (c.rs.map fun (r : RegT) => Dt.str r.2)), .u] [.lst ((srcOf c.is c.rs).map .str), .tup (c.gs.map Gt.d)] :=
          ap_cons (po_dt (po_methL (zs := (srcOf c.is c.rs).map .str) rfl ⟨_, _, c, rfl, hP5, hok, rfl⟩ (flat_strsD _))) (ap_cons (ep_fldO T.k_Circuit T.na rfl rfl) ap_nil)
        have hargs : R_in_order K [.lst ((srcOf c.is c.rs).map .str), .tup (c.gs.map Gt.d)] (ordR K (order (srcOf c.is c.rs) c.gs)) := ⟨_, _, rfl, ⟨by omega, by omega, fun g hg => by have := b5 g hg; omega⟩, rfl⟩
        have e : initR K c = ordI K c (order (srcOf c.is c.rs) c.gs) := by
          unfold initR
          rw [hd, hk]
          show sizeI K c = _
          unfold sizeI
          rw [if_pos hz]
        rw [e]
        cases ho : order (srcOf c.is c.rs) c.gs with
        | error x =>
          rw [ho] at hargs
          exact se_lez (se_fldX (er_callS args hargs)) (le_x rfl)
        | ok l =>
          rw [ho] at hargs
          exact se_le (se_fldN (t' := some p) (fs := ["inputs", "registers", "gates", "outputs", "gate_of"]) (ds := [.tup (c.is.map .str), .tup (c.rs.map regD), .tup (c.gs.map Gt.d), .tup (c.os.map .str), dk (gmap c.gs)]) (d := .lst (l.2.map Gt.d)) T.k_Circuit T.na (ee_p (po_dt (po_callS args hargs)))) (Le.s (Le.x (Le.x (Le.x (Le.x (Le.x (Le.x (Le.x (Le.x (Le.x Le.nil))))))))))
      · right
        rw [if_neg hz]
        refine ⟨rfl, ?_⟩
        unfold initR
        rw [hd, hk]
        show iOut E _ p (sizeI K c) = _
        unfold sizeI
        rw [if_neg hz]
        rfl
end
end CC
set_option maxHeartbeats 400000
namespace CC
open PySem PySem.Spec PyProof.Rows L2 Qw
open Evl hiding ea_cons
open Pw (Dt Rp RpL Wk R2d R1d RLd RLn Kq KqL truD flatD fl py pyL rangeD charsD spX2 Xm Xm0 tyD isI isB isS isTp isL rl_isInt rl_isBool rl_isStr rl_isTup rl_isList rl_int rl_max2 rl_min2 rl_len rl_lenT rl_tup rl_tupT rl_lenS rl_all rl_any rn_list rn_listT r2_I0 r2_B0 r2_eqI r2_neI r2_eqS r2_neS r2_eq r2_ne r2_I r2_inS r2_niS r2_in r2_inT r2_ixL r2_ixT r2_ixS r2_addS r2_eqD r2_neD r2_ixM r1_U ixN_at itemD cr_int cr_min2 cr_max2 cr_list cr_tuple cr_len pe_globI pe_globS pe_globR pe_tyname rTupS rInt1 rMin2)
local macro_rules | `(tactic| walk_at "side") => `(tactic| first
  | decide | omega | assumption | (show (0 : Int) < _; omega) | exact (show CDiv _ _ from ⟨by omega, by omega⟩) | exact (show CMul _ _ from Or.inr ⟨by omega, by omega⟩) | exact (show CMul _ _ from Or.inl ⟨by omega, by omega⟩) | exact (show CPow _ _ from ⟨by decide, by decide, by decide⟩))
local macro_rules | `(tactic| walk_at "op") => `(tactic| first
  | exact r2_I0 | exact r2_B0 | exact r2_eqI | exact r2_neI | exact r2_eqS | exact r2_neS
  | exact r2_eq rfl rfl rfl | exact r2_ne rfl rfl rfl
  | (refine' r2_I ?_; walk_at "side") | exact r2_inS | exact r2_niS)
local macro_rules | `(tactic| walk_at "rl") => `(tactic| first
  | exact rl_int | exact rl_max2 | exact rl_min2 | exact rl_len | exact rl_lenT | exact rl_isInt (by first | rfl | assumption) | exact rl_isBool (by first | rfl | assumption) | exact rl_isStr (by first | rfl | assumption) | exact rl_isTup (by first | rfl | assumption) | exact rl_isList (by first | rfl | assumption) | exact rl_tup | exact rl_tupT | (refine' rl_lenS ?_; walk_at "side"))
local macro_rules | `(tactic| walk_at "ap") => `(tactic| first
  | exact ap_nil
  | (refine' ap_cons ?eah ?eat; (case eah => walk_at "ep"); (case eat => walk_at "ap")))
local macro_rules | `(tactic| walk_at "ep") => `(tactic| first
  | exact ep_int | exact ep_bl | exact ep_str | exact ep_non | exact ep_ty | exact ep_var
  | (refine' ep_op ?eva ?evb ?evc; (case eva => walk_at "ep"); (case evb => walk_at "ep"); (case evc => walk_at "op"))
  | (refine' ep_cb ?evd ?eve; (case evd => walk_at "ap"); (case eve => walk_at "rl"))
  | (refine' ep_un ?evf r1_U; (case evf => walk_at "ep"))
  | (refine' ep_tup ?evg ?evi; (case evg => walk_at "ap"); (case evi => exact Nat.le_of_ble_eq_true rfl))
  | (refine' ep_lst ?evh ?evj; (case evh => walk_at "ap"); (case evj => exact Nat.le_of_ble_eq_true rfl))
  | assumption)
local macro_rules | `(tactic| walk_at "ee") => `(tactic| (refine' ee_p ?eep; (case eep => walk_at "ep")))
local macro_rules | `(tactic| walk_at "te") => `(tactic| (refine' te_p ?tep; (case tep => walk_at "tp")))
local macro_rules | `(tactic| walk_at "tp") => `(tactic| first
  | (refine' tp_test ?tea; (case tea => walk_at "ep"))
  | (refine' tp_B ?teb; (case teb => walk_at "ep"))
  | (refine' tp_not ?tec; (case tec => walk_at "tp"))
  | (refine' tp_or ?ted ?tee; (case ted => walk_at "tp"); (case tee => intro _; walk_at "tp"))
  | (refine' tp_and ?tef ?teg; (case tef => walk_at "tp"); (case teg => intro _; walk_at "tp"))
  | assumption)
section
variable {P : Program} {w : World} {K : PySem.W.Frag} {mg : Str → Option Value} {base : Heap}
def circD (K : PySem.W.Frag) (c : Cp) (ord : List Gt) : Dt := .obj (He.ga K "Circuit") CF (circE c ord)
def pinsOf (gs : List Gt) (x : Str) : List Str := ((gs.find? fun g => decide (g.l = x)).map Gt.ps).getD []
def abStep (s : List Str × List Str) (p : Str) : List Str × List Str := if p ∈ s.1 then s else (s.1 ++ [p], s.2 ++ [p])
def abN (gs : List Gt) : Nat → List Str → List Str → List Str
  | 0, f, _ => f
  | n + 1, f, ws => match ws.getLast? with
    | none => f
    | some x => abN gs n ((pinsOf gs x).foldl abStep (f, ws.dropLast)).1 ((pinsOf gs x).foldl abStep (f, ws.dropLast)).2
def aboveL (gs : List Gt) (x : Str) : List Str := abN gs (1 + (gs.flatMap Gt.ps).length) [x] [x]
def R_Circuit_above (K : PySem.W.Frag) (ds : List Dt) (r : Rs) : Prop := ∃ c ord x, ds = [circD K c ord, .str x] ∧ c.ok ∧ r = .o (.dk (kn (aboveL c.gs x)))
theorem l_Circuit_above (K : PySem.W.Frag) (ds : List Dt) (r : Rs) (h : R_Circuit_above K ds r) : ds.length = 2 := by
  obtain ⟨_, _, _, rfl, _⟩ := h
  rfl
def cnt (U f : List Str) : Nat := (U.filter fun u => !decide (u ∈ f)).length
theorem cnt_le (U f : List Str) : cnt U f ≤ U.length := List.length_filter_le _ _
theorem cnt_add {U f : List Str} {p : Str} (h1 : p ∈ U) (h2 : ¬ p ∈ f) : cnt U (f ++ [p]) + 1 ≤ cnt U f := by
  unfold cnt
  have e : (U.filter fun u => !decide (u ∈ f ++ [p])) = (U.filter fun u => !decide (u ∈ f)).filter fun u => !decide (u = p) := by
    rw [List.filter_filter]
    congr 1
    funext u
    simp [Bool.and_comm]
  rw [e]
  exact List.length_filter_lt_length_iff_exists.mpr ⟨p, by simp [h1, h2], by simp⟩
theorem gval (gs : List Gt) (x : Str) : (valD (gmap gs) (.inr x)).getD (.tup [.str "", .str "low", .tup []]) = ((gs.find? fun g => decide (g.l = x)).getD ⟨"", "low", []⟩).d := by
  unfold valD gmap
  induction gs with
  | nil => rfl
  | cons g gs ih =>
    rw [List.map_cons, List.find?_cons, List.find?_cons]
    by_cases e : g.l = x
    · subst e
      simp
    · have h1 : decide ((Sum.inr g.l : Key) = Sum.inr x) = false := decide_eq_false fun h => e (Sum.inr.inj h)
      simp only [h1, decide_eq_false e]
      exact ih
theorem pins_mem {gs : List Gt} {x p : Str} (h : p ∈ pinsOf gs x) : p ∈ gs.flatMap Gt.ps := by
  unfold pinsOf at h
  cases e : gs.find? fun g => decide (g.l = x) with
  | none => rw [e] at h; cases h
  | some g =>
    rw [e] at h
    exact List.mem_flatMap.mpr ⟨g, List.mem_of_find?_eq_some e, h⟩
theorem pins_get {gs : List Gt} {x : Str} : ((gs.find? fun g => decide (g.l = x)).getD ⟨"", "low", []⟩).ps = pinsOf gs x := by
  unfold pinsOf
  cases gs.find? fun g => decide (g.l = x) <;> rfl
theorem Cp.pins {c : Cp} (h : c.ok) : (c.gs.flatMap Gt.ps).length ≤ 4000 := by
  obtain ⟨_, _, h3, _, h5⟩ := h
  have : ∀ l : List Gt, (∀ g ∈ l, g.ps.length ≤ 4) → (l.flatMap Gt.ps).length ≤ 4 * l.length := by
    intro l
    induction l with
    | nil => intro _; simp
    | cons g l ih =>
      intro h
      have h1 := ih fun x hx => h x (by simp [hx])
      have h2 := h g (by simp)
      simp only [List.flatMap_cons, List.length_append, List.length_cons]
      omega
  have := this c.gs h5
  omega
def wlen3 (e : En) : Nat := match (e[3]? : Option Sl) with
  | some (Sl.ow _ (Ow.lst l)) => l.length
  | _ => 0
def flen2 (U : List Str) (e : En) : Nat := match (e[2]? : Option Sl) with
  | some (Sl.ow _ (Ow.dic ks _)) => (U.filter fun u => !ks.any fun k => decide (k = (.inr u : Key))).length
  | _ => 0
theorem flen_kn (U f : List Str) : (U.filter fun u => !((kn f).map Prod.fst).any fun k => decide (k = (.inr u : Key))).length = cnt U f := by
  unfold cnt kn
  congr 2
  funext u
  congr 1
  induction f with
  | nil => simp
  | cons a f ih =>
    rw [List.map_cons, List.map_cons, List.any_cons, ih]
    have : decide ((Sum.inr a : Key) = Sum.inr u) = decide (u = a) := decide_eq_decide.mpr ⟨fun h => (Sum.inr.inj h).symm, fun h => by rw [h]⟩
    simp only [this]
    simp
set_option maxHeartbeats 2000000
abbrev N_Circuit_above : List Str := ["self", "line", "found", "waiting", "gate", "pin"]
theorem sc_Circuit_above : FnScope N_Circuit_above ["self", "line"] (defScope s_Circuit_above) := ⟨rfl, rfl, rfl, by decide +kernel, rfl, by decide +kernel, by decide +kernel⟩
theorem k_Circuit_above (T : Txt K mg) (D : Dm K (He.ga K "Circuit") "above" "Circuit.above" ["self", "line"] s_Circuit_above)  : Mx P w K mg base 1 (He.ga K "Circuit") "above" ["self", "line"] (spR P w K (R_Circuit_above K)) := by
  refine Mx.of D sc_Circuit_above (l_Circuit_above K) fun f cdv A outer s H E hr => ?_
  have hu : (A.deeper (envOfC "Circuit.above" (defScope s_Circuit_above) s.heap.objs.size f cdv)).units + 64 < cLine := hr.units
  have hu1 : (A.deeper (envOfC "Circuit.above" (defScope s_Circuit_above) s.heap.objs.size f cdv)).units + 1 < cLine := Nat.lt_of_le_of_lt (Nat.add_le_add_left (by decide) _) hu
  refine ⟨_, (pss_cons (pset (i := 2) sc_Circuit_above.nd (pe_disp (pps_cons (pv 1) pe_bl pps_nil) (by rfl) (by rfl) (fun z => by cases z) (by decide)))
      (pss_cons (pset (i := 3) sc_Circuit_above.nd (pe_lst (pa_cons (pv 1) pa_nil)))
      (pss_cons (ps_while PassesOwn.never (pt_truth (pv 3) (fun _ => rfl))
      (pss_cons (pset (i := 4) sc_Circuit_above.nd (pe_dget2 hu1 (pe_fld (pv 0) rfl) (pe_bm0 PySem.F.plainAttrs_list PySem.F.slot_list_pop PySem.F.type_list_pop mt_pop (pv 3)) (pe_tup (pa_cons pe_str (pa_cons pe_str (pa_cons (pe_tup pa_nil) pa_nil)))) ⟨rfl, rfl, rfl, rfl⟩))
      (pss_one (ps_for PassesOwn.never rfl (pi_tup (pe_ix ix_tup (pv 4) pe_int (fun _ _ => rfl))) (pgn (i := 5) sc_Circuit_above.nd)
      (pss_one (ps_if (pt_cmp (pc_dnotin hu1 (pv 5) (pv 2))) (pss_cons (ps_dput hu1 (pv 2) (pv 5) pe_bl rfl)
      (pss_one (ps_expr (pe_bm PySem.F.plainAttrs_list PySem.F.slot_list_append PySem.F.type_list_append mt_append (pv 3) (pa_cons (pv 5) pa_nil))))) pss_nil))))))
      (pss_one (ps_ret (pv 2)))))), ?_⟩
  rintro ds r ⟨c, ord, x, rfl, hok, rfl⟩
  show Se P w K _ [.d (circD K c ord), .d (.str x), .u, .u, .u, .u] _
  have hpins := Cp.pins hok
  generalize hU : c.gs.flatMap Gt.ps = U at hpins
  refine se_seq (env1 := [.d (circD K c ord), .d (.str x), .ow none (.dk (kn [x])), .u, .u, .u]) (se_own (eo_p (po_disp (ts := [(tVar 1, tC (.bl true))]) (kvs := [(.inr x, .bl true)]) ⟨ep_var, ep_bl, trivial⟩ (by simp)))) ?_
  refine se_seq (se_own (en_p (np_lst (ap_cons ep_var ap_nil)))) ?_
  let Wn : List Str → List Str → En := fun f ws => [.d (circD K c ord), .d (.str x), .ow none (.dk (kn f)), .ow none (.lst (ws.map .str)), .x, .x]
  refine se_seq (env1 := Wn (aboveL c.gs x) []) (se_pre (env1 := Wn [x] [x]) (Le.s (Le.s (Le.s (Le.s (Le.x (Le.x Le.nil)))))) ?_) (se_roV rfl)
  refine se_while (fun e => ∃ f ws n, e = Wn f ws ∧ f.length + cnt U f ≤ 1 + U.length ∧ ws.length ≤ f.length ∧ cnt U f + ws.length ≤ n ∧ abN c.gs n f ws = aboveL c.gs x) (fun e => flen2 U e + wlen3 e) ?_ ⟨_, _, 1 + U.length, rfl, by have := cnt_le U [x]; simp; omega, by simp, by have := cnt_le U [x]; simp; omega, by rw [← hU]; rfl⟩
  rintro e ⟨f, ws, n, rfl, i1, i2, i3, i4⟩
  refine ⟨_, te_p tp_truO, fun hb => .inl ?_, fun hb => ?_⟩
  · have hne : ws ≠ [] := by rintro rfl; cases hb
    obtain ⟨ws', y, rfl⟩ : ∃ l y, ws = l ++ [y] := ⟨ws.dropLast, ws.getLast hne, (List.dropLast_concat_getLast hne).symm⟩
    obtain ⟨n, rfl⟩ : ∃ m, n = m + 1 := by
      cases n with
      | zero => simp at i3
      | succ n => exact ⟨n, rfl⟩
    have i4 : abN c.gs n ((pinsOf c.gs y).foldl abStep (f, ws')).1 ((pinsOf c.gs y).foldl abStep (f, ws')).2 = aboveL c.gs x := by
      rw [← i4]
      simp [abN]
    let s := (pinsOf c.gs y).foldl abStep (f, ws')
    have fin : s.1.length + cnt U s.1 ≤ 1 + U.length ∧ s.2.length ≤ s.1.length ∧ cnt U s.1 + s.2.length ≤ cnt U f + ws'.length := by
      have key : ∀ (l : List Str) (s : List Str × List Str), (∀ p ∈ l, p ∈ U) → s.1.length + cnt U s.1 ≤ 1 + U.length → s.2.length ≤ s.1.length → (l.foldl abStep s).1.length + cnt U (l.foldl abStep s).1 ≤ 1 + U.length ∧ (l.foldl abStep s).2.length ≤ (l.foldl abStep s).1.length ∧ cnt U (l.foldl abStep s).1 + (l.foldl abStep s).2.length ≤ cnt U s.1 + s.2.length := by
        intro l
        induction l with
        | nil => intro s _ h1 h2; exact ⟨h1, h2, Nat.le_refl _⟩
        | cons p l ih =>
          intro s hp h1 h2
          rw [List.foldl_cons]
          by_cases e : p ∈ s.1
          · have e2 : abStep s p = s := if_pos e
            rw [e2]
            exact ih s (fun q hq => hp q (by simp [hq])) h1 h2
          · have e2 : abStep s p = (s.1 ++ [p], s.2 ++ [p]) := if_neg e
            rw [e2]
            have hc := cnt_add (hp p (by simp)) e
            obtain ⟨g1, g2, g3⟩ := ih (s.1 ++ [p], s.2 ++ [p]) (fun q hq => hp q (by simp [hq])) (by simp; omega) (by simp; omega)
            refine ⟨g1, g2, ?_⟩
            simp at g3
            omega
      refine key _ _ (fun p hp => by rw [← hU]; exact pins_mem hp) i1 ?_
      simp at i2
      show ws'.length ≤ f.length
      omega
    refine ⟨Wn s.1 s.2, ⟨_, _, n, rfl, fin.1, fin.2.1, by simp at i3; omega, i4⟩, ?_, ?_⟩
    · have e1 : flen2 U (Wn s.1 s.2) = cnt U s.1 := flen_kn U s.1
      have e2 : flen2 U (Wn f (ws' ++ [y])) = cnt U f := flen_kn U f
      have e3 : wlen3 (Wn s.1 s.2) = s.2.length := by show (s.2.map Dt.str).length = _; simp
      have e4 : wlen3 (Wn f (ws' ++ [y])) = ws'.length + 1 := by show ((ws' ++ [y]).map Dt.str).length = _; simp
      show flen2 U (Wn s.1 s.2) + wlen3 (Wn s.1 s.2) < flen2 U (Wn f (ws' ++ [y])) + wlen3 (Wn f (ws' ++ [y]))
      omega
    · have hcE : ∀ {en : En}, en[0]? = some (.d (circD K c ord)) → Ep P w K (tFld K (tVar 0) "gate_of") en (dk (gmap c.gs)) := fun h => ep_fld (fs := CF) (ds := circE c ord) T.k_Circuit T.na (ep_var h) rfl
      have hw : (Wn f (ws' ++ [y]))[3]? = some (.ow none (.lst (ws'.map .str ++ [.str y]))) := by
        show some (Sl.ow none (Ow.lst ((ws' ++ [y]).map Dt.str))) = _
        simp
      refine se_nc (se_seq (env1 := [.d (circD K c ord), .d (.str x), .ow none (.dk (kn f)), .ow none (.lst (ws'.map .str)), .d ((c.gs.find? fun g => decide (g.l = y)).getD ⟨"", "low", []⟩).d, .x]) (se_is (se_asg (ee_dget2 (k := .inr y) (ee_popO hw) (ep_tup (ap_cons ep_str (ap_cons ep_str (ap_cons (ep_tup ap_nil) ap_nil)))) (hcE rfl))) ?_) ?_)
      · rw [gval]
        rfl
      · generalize hg : (c.gs.find? fun g => decide (g.l = y)).getD ⟨"", "low", []⟩ = g
        have hps : g.ps = pinsOf c.gs y := by rw [← hg, pins_get]
        let En1 : List Str × List Str → En := fun s => [.d (circD K c ord), .d (.str x), .ow none (.dk (kn s.1)), .ow none (.lst (s.2.map .str)), .d g.d, .x]
        refine se_le (env1 := En1 s) (se_is (se_fold g.ps Dt.str rfl (ip_tup (ep_gate rfl).2.2) En1 abStep (fun s pre => s.1.length + cnt U s.1 ≤ 1 + U.length ∧ s.2.length ≤ s.1.length) (f, ws') (Le.s (Le.s (Le.s (Le.s (Le.s (Le.x Le.nil)))))) ⟨i1, by simp at i2; show ws'.length ≤ f.length; omega⟩ ?_) (by rw [hps])) (Le.s (Le.s (Le.s (Le.s (Le.x (Le.x Le.nil))))))
        rintro s pre p post hx ⟨p1, p2⟩
        have hpU : p ∈ U := by
          rw [← hU]
          refine pins_mem (x := y) ?_
          rw [← hps, hx]
          simp
        refine ⟨?_, _, ge_name, ?_⟩
        · by_cases e : p ∈ s.1
          · have e2 : abStep s p = s := if_pos e
            rw [e2]
            exact ⟨p1, p2⟩
          · have e2 : abStep s p = (s.1 ++ [p], s.2 ++ [p]) := if_neg e
            rw [e2]
            have hc := cnt_add hpU e
            exact ⟨by simp; omega, by simp; omega⟩
        · refine se_nc (se_le (env1 := (En1 (abStep s p)).set 5 (.d (.str p))) (se_if (b := !decide (p ∈ s.1)) (env1 := (En1 s).set 5 (.d (.str p))) (te_p (tp_is (tp_B (ep_dni (kvs := kn s.1) (k := .inr p) (edk_o rfl) ep_var)) (by rw [val_kn]))) (fun hb => ?_) (fun hb => ?_)) (Le.s (Le.s (Le.s (Le.s (Le.s (Le.x Le.nil)))))))
          · have e : ¬ p ∈ s.1 := by simpa using hb
            have e2 : abStep s p = (s.1 ++ [p], s.2 ++ [p]) := if_neg e
            rw [e2]
            have l1 : (kn s.1).length < 100000 := by rw [kn_len]; omega
            refine se_is (se_seq (se_dput (kvs := kn s.1) (k := .inr p) (d := .bl true) (ee_p ep_bl) ep_var rfl l1) (se_app (xs := s.2.map .str) rfl (ee_p ep_var) rfl (by simp; omega))) ?_
            rw [put_kn, show ins s.1 p = s.1 ++ [p] from if_neg e]
            simp [En1]
          · have e : p ∈ s.1 := by simpa using hb
            have e2 : abStep s p = s := if_pos e
            rw [e2]
            exact se_next
  · have hws : ws = [] := by
      cases ws with
      | nil => rfl
      | cons g r => cases hb
    subst hws
    have : aboveL c.gs x = f := by
      rw [← i4]
      cases n <;> rfl
    rw [this]
end
end CC
set_option maxHeartbeats 400000
namespace CC
open PySem PySem.Spec PyProof.Rows L2 Qw
open Evl hiding ea_cons
open Pw (Dt Rp RpL Wk R2d R1d RLd RLn Kq KqL truD flatD fl py pyL rangeD charsD spX2 Xm Xm0 tyD isI isB isS isTp isL rl_isInt rl_isBool rl_isStr rl_isTup rl_isList rl_int rl_max2 rl_min2 rl_len rl_lenT rl_tup rl_tupT rl_lenS rl_all rl_any rn_list rn_listT r2_I0 r2_B0 r2_eqI r2_neI r2_eqS r2_neS r2_eq r2_ne r2_I r2_inS r2_niS r2_in r2_inT r2_ixL r2_ixT r2_ixS r2_addS r2_eqD r2_neD r2_ixM r1_U ixN_at itemD cr_int cr_min2 cr_max2 cr_list cr_tuple cr_len pe_globI pe_globS pe_globR pe_tyname rTupS rInt1 rMin2)
local macro_rules | `(tactic| walk_at "side") => `(tactic| first
  | decide | omega | assumption | (show (0 : Int) < _; omega) | exact (show CDiv _ _ from ⟨by omega, by omega⟩) | exact (show CMul _ _ from Or.inr ⟨by omega, by omega⟩) | exact (show CMul _ _ from Or.inl ⟨by omega, by omega⟩) | exact (show CPow _ _ from ⟨by decide, by decide, by decide⟩))
local macro_rules | `(tactic| walk_at "op") => `(tactic| first
  | exact r2_I0 | exact r2_B0 | exact r2_eqI | exact r2_neI | exact r2_eqS | exact r2_neS
  | exact r2_eq rfl rfl rfl | exact r2_ne rfl rfl rfl
  | (refine' r2_I ?_; walk_at "side") | exact r2_inS | exact r2_niS)
local macro_rules | `(tactic| walk_at "rl") => `(tactic| first
  | exact rl_int | exact rl_max2 | exact rl_min2 | exact rl_len | exact rl_lenT | exact rl_isInt (by first | rfl | assumption) | exact rl_isBool (by first | rfl | assumption) | exact rl_isStr (by first | rfl | assumption) | exact rl_isTup (by first | rfl | assumption) | exact rl_isList (by first | rfl | assumption) | exact rl_tup | exact rl_tupT | (refine' rl_lenS ?_; walk_at "side"))
local macro_rules | `(tactic| walk_at "ap") => `(tactic| first
  | exact ap_nil
  | (refine' ap_cons ?eah ?eat; (case eah => walk_at "ep"); (case eat => walk_at "ap")))
local macro_rules | `(tactic| walk_at "ep") => `(tactic| first
  | exact ep_int | exact ep_bl | exact ep_str | exact ep_non | exact ep_ty | exact ep_var
  | (refine' ep_op ?eva ?evb ?evc; (case eva => walk_at "ep"); (case evb => walk_at "ep"); (case evc => walk_at "op"))
  | (refine' ep_cb ?evd ?eve; (case evd => walk_at "ap"); (case eve => walk_at "rl"))
  | (refine' ep_un ?evf r1_U; (case evf => walk_at "ep"))
  | (refine' ep_tup ?evg ?evi; (case evg => walk_at "ap"); (case evi => exact Nat.le_of_ble_eq_true rfl))
  | (refine' ep_lst ?evh ?evj; (case evh => walk_at "ap"); (case evj => exact Nat.le_of_ble_eq_true rfl))
  | assumption)
local macro_rules | `(tactic| walk_at "ee") => `(tactic| (refine' ee_p ?eep; (case eep => walk_at "ep")))
local macro_rules | `(tactic| walk_at "te") => `(tactic| (refine' te_p ?tep; (case tep => walk_at "tp")))
local macro_rules | `(tactic| walk_at "tp") => `(tactic| first
  | (refine' tp_test ?tea; (case tea => walk_at "ep"))
  | (refine' tp_B ?teb; (case teb => walk_at "ep"))
  | (refine' tp_not ?tec; (case tec => walk_at "tp"))
  | (refine' tp_or ?ted ?tee; (case ted => walk_at "tp"); (case tee => intro _; walk_at "tp"))
  | (refine' tp_and ?tef ?teg; (case tef => walk_at "tp"); (case teg => intro _; walk_at "tp"))
  | assumption)
section
variable {P : Program} {w : World} {K : PySem.W.Frag} {mg : Str → Option Value} {base : Heap}
open Mw
theorem spI_imp {C : Addr} {R R' : List Dt → Ri → Prop} (h : ∀ ds r, R' ds r → R ds r) (vs : List V) (H : Hp) (Q : VK) (E : XK) (q : spI P w K C R' vs H Q E) : spI P w K C R vs H Q E := by
  obtain ⟨F, p, dx, vs', ds, r, e, h1, h2, h3, h4, h5, h6⟩ := q
  exact ⟨F, p, dx, vs', ds, r, e, h1, h2, h3, h4, h ds r h5, h6⟩
theorem spR_imp {R R' : List Dt → Rs → Prop} (h : ∀ ds r, R' ds r → R ds r) (vs : List V) (H : Hp) (Q : VK) (E : XK) (q : spR P w K R' vs H Q E) : spR P w K R vs H Q E := by
  obtain ⟨F, ds, r, h1, h2, h3, h4⟩ := q
  exact ⟨F, ds, r, h1, h2, h ds r h3, h4⟩
theorem fnOk_imp {k : Nat} {f : Addr} {fd : FuncData} {ps : List Str} {sp sp' : Sp} (F : FnOk P w K mg base (L2.CX P w) k f fd ps sp) (h : ∀ vs H Q E, sp' vs H Q E → sp vs H Q E) : FnOk P w K mg base (L2.CX P w) k f fd ps sp' :=
  ⟨fun vs H Q E q => F.len vs H Q E (h vs H Q E q), fun A outer s H args us vs Q E hr he hb hv q => F.run A outer s H args us vs Q E hr he hb hv (h vs H Q E q)⟩
theorem ix_imp {k : Nat} {C : Addr} {x : Str} {ps : List Str} {R R' : List Dt → Ri → Prop} (I : Ix P w K mg base k C x ps (spI P w K C R)) (h : ∀ ds r, R' ds r → R ds r) : Ix P w K mg base k C x ps (spI P w K C R') := by
  obtain ⟨f, fd, h1, h2, h3, h4⟩ := I
  exact ⟨f, fd, h1, h2, h3, fnOk_imp h4 (spI_imp h)⟩
theorem mx_imp {k : Nat} {C : Addr} {m : Str} {ps : List Str} {R R' : List Dt → Rs → Prop} (M : Mx P w K mg base k C m ps (spR P w K R)) (h : ∀ ds r, R' ds r → R ds r) : Mx P w K mg base k C m ps (spR P w K R') := by
  obtain ⟨f, fd, h1, h2, h3⟩ := M
  exact ⟨f, fd, h1, h2, fnOk_imp h3 (spR_imp h)⟩
abbrev CV := Cp × List Gt
abbrev eCircuit (K : PySem.W.Frag) : CV → Dt := fun p => .obj (He.ga K "Circuit") CF (circE p.1 p.2)
def sq {α : Type} : Bool → (α → Dt) → List α → Dt
  | true, e, xs => eT e xs
  | false, e, xs => eL e xs
theorem sq_of {α : Type} {e : α → Dt} {xs : List α} : ∀ b, seqOf (sq b e xs) (xs.map e)
  | true => .inl rfl
  | false => .inr rfl
def badE (reason name : Str) : Exn := ⟨"BadCircuit", ["name", "reason"], [.str name, .str reason]⟩
def order1 (c : Cp) : R CV := match order (srcOf c.is c.rs) c.gs with
  | .ok l => .ok (c, l.2)
  | .error x => .ex (badE "loop" x)
def size1 (c : Cp) : R CV := if (linesOf c.is c.rs c.gs).length ≤ 400 ∧ (srcOf c.is c.rs).length ≤ 40 then order1 c else .ex (badE "size" "")
def known1 (c : Cp) : R CV := match (usesOf c).find? fun y => !decide (y ∈ linesOf c.is c.rs c.gs) with
  | some x => .ex (badE "unknown" x)
  | none => size1 c
def twice1 (c : Cp) : R CV := match dupOf [] (linesOf c.is c.rs c.gs) with
  | some x => .ex (badE "twice" x)
  | none => known1 c
def form1 (c : Cp) : Bool := formOk (c.is.map .str) (c.rs.map regD) (c.gs.map Gt.d) (c.os.map .str)
def small1 (c : Cp) : Bool := (c.is.map Dt.str).all okS && ((c.rs.map regD).all okR && ((c.gs.map Gt.d).all okG && (c.os.map Dt.str).all okS))
def m_Circuit_init (is : List Str) (rs : List (Str × Str)) (gs : List Gt) (os : List Str) : R CV :=
  R.need ((is.length ≤ 1000 ∧ rs.length ≤ 1000 ∧ gs.length ≤ 1000 ∧ os.length ≤ 1000) ∧ small1 ⟨is, rs, gs, os⟩ = true) (if form1 ⟨is, rs, gs, os⟩ = true then R.need (∀ g ∈ gs, g.ps.length ≤ 4) (twice1 ⟨is, rs, gs, os⟩) else .ex (badE "form" ""))
abbrev RM_Circuit_init (K : PySem.W.Frag) (b1 b2 b3 b4 : Bool) : List Dt → Ri → Prop := RI K CF (fun (a_ : List Str × List (Str × Str) × List Gt × List Str × Unit) => [sq b1 eS a_.1, sq b2 (eP2 eS eS) a_.2.1, sq b3 Gt.d a_.2.2.1, sq b4 eS a_.2.2.2.1]) (fun a_ => m_Circuit_init a_.1 a_.2.1 a_.2.2.1 a_.2.2.2.1) (fun p => circE p.1 p.2)
theorem init_got (c : Cp) (r : Ri) (h : GotI K CF (twice1 c) (fun p => circE p.1 p.2) r) : r = initR K c := by
  unfold twice1 at h
  unfold initR
  cases e : dupOf [] (linesOf c.is c.rs c.gs) with
  | some x => rw [e] at h; exact h
  | none =>
    rw [e] at h
    show r = orI _ _ _
    unfold known1 at h
    cases e2 : (usesOf c).find? fun y => !decide (y ∈ linesOf c.is c.rs c.gs) with
    | some x => rw [e2] at h; exact h
    | none =>
      rw [e2] at h
      show r = sizeI K c
      unfold sizeI
      unfold size1 at h
      split
      · rename_i hs
        rw [if_pos hs] at h
        unfold order1 at h
        cases e3 : order (srcOf c.is c.rs) c.gs with
        | ok l => rw [e3] at h; exact h
        | error x => rw [e3] at h; exact h
      · rename_i hs
        rw [if_neg hs] at h
        exact h
theorem ri_Circuit (b1 b2 b3 b4 : Bool) (ds : List Dt) (r : Ri) (h : RM_Circuit_init K b1 b2 b3 b4 ds r) : R_Circuit_init K ds r := by
  obtain ⟨⟨is, rs, gs, os, _⟩, rfl, h⟩ := h
  simp only at h
  unfold m_Circuit_init R.need at h
  split at h
  · rename_i hc
    obtain ⟨hl, hs⟩ := hc
    unfold small1 at hs
    simp only [Bool.and_eq_true] at hs
    refine ⟨_, _, _, _, is.map .str, rs.map regD, gs.map Gt.d, os.map .str, rfl, ⟨sq_of b1, sq_of b2, sq_of b3, sq_of b4⟩, ⟨by simpa using hl.1, by simpa using hl.2.1, by simpa using hl.2.2.1, by simpa using hl.2.2.2⟩, ⟨hs.1, hs.2.1, hs.2.2.1, hs.2.2.2⟩, ?_⟩
    split at h
    · rename_i hf
      split at h
      · rename_i hp
        exact .inr ⟨hf, ⟨is, rs, gs, os⟩, rfl, rfl, rfl, rfl, ⟨hl.1, hl.2.1, hl.2.2.1, hl.2.2.2, hp⟩, init_got _ r h⟩
      · exact h.elim
    · rename_i hf
      exact .inl ⟨by simpa [form1] using hf, h⟩
  · exact h.elim
end
end CC
set_option maxHeartbeats 400000
namespace CC
open PySem PySem.Spec PyProof.Rows L2 Qw
open Evl hiding ea_cons
open Pw (Dt Rp RpL Wk R2d R1d RLd RLn Kq KqL truD flatD fl py pyL rangeD charsD spX2 Xm Xm0 tyD isI isB isS isTp isL rl_isInt rl_isBool rl_isStr rl_isTup rl_isList rl_int rl_max2 rl_min2 rl_len rl_lenT rl_tup rl_tupT rl_lenS rl_all rl_any rn_list rn_listT r2_I0 r2_B0 r2_eqI r2_neI r2_eqS r2_neS r2_eq r2_ne r2_I r2_inS r2_niS r2_in r2_inT r2_ixL r2_ixT r2_ixS r2_addS r2_eqD r2_neD r2_ixM r1_U ixN_at itemD cr_int cr_min2 cr_max2 cr_list cr_tuple cr_len pe_globI pe_globS pe_globR pe_tyname rTupS rInt1 rMin2)
local macro_rules | `(tactic| walk_at "side") => `(tactic| first
  | decide | omega | assumption | (show (0 : Int) < _; omega) | exact (show CDiv _ _ from ⟨by omega, by omega⟩) | exact (show CMul _ _ from Or.inr ⟨by omega, by omega⟩) | exact (show CMul _ _ from Or.inl ⟨by omega, by omega⟩) | exact (show CPow _ _ from ⟨by decide, by decide, by decide⟩))
local macro_rules | `(tactic| walk_at "op") => `(tactic| first
  | exact r2_I0 | exact r2_B0 | exact r2_eqI | exact r2_neI | exact r2_eqS | exact r2_neS
  | exact r2_eq rfl rfl rfl | exact r2_ne rfl rfl rfl
  | (refine' r2_I ?_; walk_at "side") | exact r2_inS | exact r2_niS)
local macro_rules | `(tactic| walk_at "rl") => `(tactic| first
  | exact rl_int | exact rl_max2 | exact rl_min2 | exact rl_len | exact rl_lenT | exact rl_isInt (by first | rfl | assumption) | exact rl_isBool (by first | rfl | assumption) | exact rl_isStr (by first | rfl | assumption) | exact rl_isTup (by first | rfl | assumption) | exact rl_isList (by first | rfl | assumption) | exact rl_tup | exact rl_tupT | (refine' rl_lenS ?_; walk_at "side"))
local macro_rules | `(tactic| walk_at "ap") => `(tactic| first
  | exact ap_nil
  | (refine' ap_cons ?eah ?eat; (case eah => walk_at "ep"); (case eat => walk_at "ap")))
local macro_rules | `(tactic| walk_at "ep") => `(tactic| first
  | exact ep_int | exact ep_bl | exact ep_str | exact ep_non | exact ep_ty | exact ep_var
  | (refine' ep_op ?eva ?evb ?evc; (case eva => walk_at "ep"); (case evb => walk_at "ep"); (case evc => walk_at "op"))
  | (refine' ep_cb ?evd ?eve; (case evd => walk_at "ap"); (case eve => walk_at "rl"))
  | (refine' ep_un ?evf r1_U; (case evf => walk_at "ep"))
  | (refine' ep_tup ?evg ?evi; (case evg => walk_at "ap"); (case evi => exact Nat.le_of_ble_eq_true rfl))
  | (refine' ep_lst ?evh ?evj; (case evh => walk_at "ap"); (case evj => exact Nat.le_of_ble_eq_true rfl))
  | assumption)
local macro_rules | `(tactic| walk_at "ee") => `(tactic| (refine' ee_p ?eep; (case eep => walk_at "ep")))
local macro_rules | `(tactic| walk_at "te") => `(tactic| (refine' te_p ?tep; (case tep => walk_at "tp")))
local macro_rules | `(tactic| walk_at "tp") => `(tactic| first
  | (refine' tp_test ?tea; (case tea => walk_at "ep"))
  | (refine' tp_B ?teb; (case teb => walk_at "ep"))
  | (refine' tp_not ?tec; (case tec => walk_at "tp"))
  | (refine' tp_or ?ted ?tee; (case ted => walk_at "tp"); (case tee => intro _; walk_at "tp"))
  | (refine' tp_and ?tef ?teg; (case tef => walk_at "tp"); (case teg => intro _; walk_at "tp"))
  | assumption)
section
variable {P : Program} {w : World} {K : PySem.W.Frag} {mg : Str → Option Value} {base : Heap}
theorem in_strs (k : Str) (xs : List Str) : R2d K (rIn K false) (.str k) (.lst (xs.map .str)) (.bl (decide (k ∈ xs))) := by
  have h := r2_in (K := K) (neg := false) (d := .str k) (ds := xs.map Dt.str) rfl (flat_strsD xs) rfl (flat_strsV xs)
  rw [fl_strs] at h
  have e : inV (Pw.fl (.str k)) (xs.map V.str) = decide (k ∈ xs) := inV_strs k xs
  rw [e] at h
  exact h
def isInt : Dt → Int → Int → Bool
  | .int i, a, b => decide (a ≤ i) && decide (i ≤ b)
  | _, _, _ => false
def R_is_integer (ds : List Dt) (r : Rs) : Prop := ∃ v a b, ds = [v, .int a, .int b] ∧ (tyD v).isSome = true ∧ r = .d (.bl (isInt v a b))
theorem l_is_integer (ds : List Dt) (r : Rs) (h : R_is_integer ds r) : ds.length = 3 := by
  obtain ⟨_, _, _, rfl, _⟩ := h
  rfl
abbrev N_is_integer : List Str := ["value", "least", "greatest"]
theorem sc_is_integer : FnScope N_is_integer ["value", "least", "greatest"] (defScope s_is_integer) := ⟨rfl, rfl, rfl, by decide +kernel, rfl, by decide +kernel, by decide +kernel⟩
theorem k_is_integer (T : Txt K mg) (D : Dx K mg "is_integer" ["value", "least", "greatest"] s_is_integer)  : Fx P w K mg base 1 "is_integer" ["value", "least", "greatest"] (spR P w K R_is_integer) := by
  refine Fx.of D sc_is_integer (l_is_integer) fun f cdv A outer s H E hr => ?_
  refine ⟨_, (pss_cons (ps_if (PW.pt (pw_or (pt_not (pt_val (pe_callB call_isi (by rfl) T.f_isinstance (by decide +kernel) (pa_cons (pv 0) (pa_cons (pe_tyname (n := "int") T.f_int) pa_nil))))) (pw_or1 (pt_val (pe_callB call_isi (by rfl) T.f_isinstance (by decide +kernel) (pa_cons (pv 0) (pa_cons (pe_tyname (n := "bool") T.f_bool) pa_nil))))))) (pss_one (ps_ret pe_bl)) pss_nil)
      (pss_one (ps_ret (pe_chain op_le op_le (pv 1) (pv 0) (pv 2))))), ?_⟩
  rintro ds r ⟨v, a, b, rfl, hv, rfl⟩
  left
  show Se P w K _ [.d v, .d (.int a), .d (.int b)] _
  refine se_when (b := !(isI v || isB v) || isB v) (te_p (by walk_at "tp")) (fun hb => ?_) (fun hb => ?_)
  · refine se_seqF (se_ret (ee_p (ep_is ep_bl ?_)))
    cases v <;> first | rfl | cases hb
  · cases v <;> first | cases hb | skip
    exact se_ret (ee_p (ep_chain ep_var ep_var r2_B0 (fun _ => ep_var) fun _ => r2_B0))
def R_is_bit (ds : List Dt) (r : Rs) : Prop := ∃ v, ds = [v] ∧ (tyD v).isSome = true ∧ r = .d (.bl (isInt v 0 1))
theorem l_is_bit (ds : List Dt) (r : Rs) (h : R_is_bit ds r) : ds.length = 1 := by
  obtain ⟨_, rfl, _⟩ := h
  rfl
abbrev N_is_bit : List Str := ["value"]
theorem sc_is_bit : FnScope N_is_bit ["value"] (defScope s_is_bit) := ⟨rfl, rfl, rfl, by decide +kernel, rfl, by decide +kernel, by decide +kernel⟩
theorem k_is_bit (T : Txt K mg) (D : Dx K mg "is_bit" ["value"] s_is_bit)  (G_is_integer : Fx P w K mg base 1 "is_integer" ["value", "least", "greatest"] (spR P w K R_is_integer)) : Fx P w K mg base 2 "is_bit" ["value"] (spR P w K R_is_bit) := by
  refine Fx.of D sc_is_bit (l_is_bit) fun f cdv A outer s H E hr => ?_
  refine ⟨_, (pss_one (ps_ret (pe_fx G_is_integer (hr.mono (by decide)) (pa_cons (pv 0) (pa_cons pe_int (pa_cons pe_int pa_nil)))))), ?_⟩
  rintro ds r ⟨v, rfl, hv, rfl⟩
  left
  exact se_ret (ee_p (ep_call (ap_cons ep_var (ap_cons ep_int (ap_cons ep_int ap_nil))) ⟨v, 0, 1, rfl, hv, rfl⟩))
end
section
variable {P : Program} {w : World} {K : PySem.W.Frag} {mg : Str → Option Value} {base : Heap}
/-- a text among the lines -/
def isLine (L : List Str) : Dt → Bool
  | .str x => nameB x && decide (x ∈ L)
  | _ => false
def R_is_line (K : PySem.W.Frag) (ds : List Dt) (r : Rs) : Prop := ∃ c ord v, ds = [circD K c ord, v] ∧ c.ok ∧ okS v = true ∧ r = .d (.bl (isLine (linesOf c.is c.rs c.gs) v))
theorem l_is_line (K : PySem.W.Frag) (ds : List Dt) (r : Rs) (h : R_is_line K ds r) : ds.length = 2 := by
  obtain ⟨_, _, _, rfl, _⟩ := h
  rfl
theorem hasp (c : Cp) (ord : List Gt) : HasP CF (circE c ord) c := ⟨rfl, rfl, rfl, rfl, by decide +kernel⟩
theorem ep_lines {env : En} {c : Cp} {ord : List Gt} {ta : TE} (h : Ep P w K ta env (circD K c ord)) (ok : c.ok) : Ep P w K (tMeth (He.ga K "Circuit") "lines" (spR P w K (R_Circuit_lines K)) [] E0 ta tNil) env (.lst ((linesOf c.is c.rs c.gs).map .str)) :=
  po_dt (po_meth (u := .lst ((linesOf c.is c.rs c.gs).map .str)) h ap_nil ⟨CF, circE c ord, c, rfl, hasp c ord, ok, rfl⟩) rfl
abbrev N_is_line : List Str := ["circuit", "value"]
theorem sc_is_line : FnScope N_is_line ["circuit", "value"] (defScope s_is_line) := ⟨rfl, rfl, rfl, by decide +kernel, rfl, by decide +kernel, by decide +kernel⟩
theorem k_is_line (T : Txt K mg) (D : Dx K mg "_is_line" ["circuit", "value"] s_is_line)  (G_is_name : Fx P w K mg base 1 "is_name" ["value"] (spR P w K R_is_name)) (M_Circuit_lines : Mx P w K mg base 2 (He.ga K "Circuit") "lines" ["self"] (spR P w K (R_Circuit_lines K))) : Fx P w K mg base 3 "_is_line" ["circuit", "value"] (spR P w K (R_is_line K)) := by
  refine Fx.of D sc_is_line (l_is_line K) fun f cdv A outer s H E hr => ?_
  refine ⟨_, (pss_one (ps_ret (pe_and (pe_fx G_is_name (hr.mono (by decide)) (pa_cons (pv 1) pa_nil)) (pe_one (pe_cmpR op_in_seq (pv 1) (pe_mx0 M_Circuit_lines T.k_Circuit (hr.mono (by decide)) (pv 0)) rfl))))), ?_⟩
  rintro ds r ⟨c, ord, v, rfl, ok, hv, rfl⟩
  left
  show Se P w K _ [.d (circD K c ord), .d v] _
  cases hn : isName v with
  | false =>
    refine se_ret (ee_p (ep_is (ep_and (a := false) (b := true) (ep_is (ep_call (ap_cons ep_var ap_nil) ⟨v, rfl, hv, rfl⟩) (by rw [hn])) (fun z => nomatch z)) ?_))
    cases v <;> first | rfl | skip
    show Dt.bl false = Dt.bl (nameB _ && _)
    rw [show nameB _ = false from hn]
    rfl
  | true =>
    obtain ⟨x, rfl⟩ : ∃ x, v = .str x := by cases v <;> first | exact ⟨_, rfl⟩ | cases hn
    refine se_ret (ee_p (ep_is (ep_and (a := true) (ep_is (ep_call (ap_cons ep_var ap_nil) ⟨_, rfl, hv, rfl⟩) (by rw [hn])) fun _ => ep_op ep_var (ep_lines ep_var ok) (in_strs x _)) ?_))
    show Dt.bl (true && _) = Dt.bl (nameB x && _)
    rw [show nameB x = true from hn]
end
section
variable {P : Program} {w : World} {K : PySem.W.Frag} {mg : Str → Option Value} {base : Heap}
def R_is_stem (K : PySem.W.Frag) (ds : List Dt) (r : Rs) : Prop := ∃ c ord v b, ds = [circD K c ord, v, b] ∧ c.ok ∧ okS v = true ∧ (tyD b).isSome = true ∧ r = .d (.bl (isLine (linesOf c.is c.rs c.gs) v && isInt b 0 1))
theorem l_is_stem (K : PySem.W.Frag) (ds : List Dt) (r : Rs) (h : R_is_stem K ds r) : ds.length = 3 := by
  obtain ⟨_, _, _, _, rfl, _⟩ := h
  rfl
abbrev N_is_stem : List Str := ["circuit", "line", "value"]
theorem sc_is_stem : FnScope N_is_stem ["circuit", "line", "value"] (defScope s_is_stem) := ⟨rfl, rfl, rfl, by decide +kernel, rfl, by decide +kernel, by decide +kernel⟩
theorem k_is_stem (T : Txt K mg) (D : Dx K mg "_is_stem" ["circuit", "line", "value"] s_is_stem)  (G__is_line : Fx P w K mg base 3 "_is_line" ["circuit", "value"] (spR P w K (R_is_line K))) (G_is_bit : Fx P w K mg base 2 "is_bit" ["value"] (spR P w K R_is_bit)) : Fx P w K mg base 4 "_is_stem" ["circuit", "line", "value"] (spR P w K (R_is_stem K)) := by
  refine Fx.of D sc_is_stem (l_is_stem K) fun f cdv A outer s H E hr => ?_
  refine ⟨_, (pss_one (ps_ret (pe_and (pe_fx G__is_line (hr.mono (by decide)) (pa_cons (pv 0) (pa_cons (pv 1) pa_nil))) (pe_one (pe_fx G_is_bit (hr.mono (by decide)) (pa_cons (pv 2) pa_nil)))))), ?_⟩
  rintro ds r ⟨c, ord, v, b, rfl, ok, hv, hb, rfl⟩
  left
  exact se_ret (ee_p (ep_and (ep_call (ap_cons ep_var (ap_cons ep_var ap_nil)) ⟨c, ord, v, rfl, ok, hv, rfl⟩) fun _ => ep_call (ap_cons ep_var ap_nil) ⟨b, rfl, hb, rfl⟩))
end
section
variable {P : Program} {w : World} {K : PySem.W.Frag} {mg : Str → Option Value} {base : Heap}
/-- how many pins the gate of a line has -/
def isPin (gs : List Gt) : Dt → Dt → Dt → Bool
  | .str x, i, b => nameB x && (match gs.find? fun g => decide (g.l = x) with
    | some g => isInt i 0 ((g.ps.length : Int) - 1) && isInt b 0 1
    | none => false)
  | _, _, _ => false
def R_is_pin (K : PySem.W.Frag) (ds : List Dt) (r : Rs) : Prop := ∃ c ord v i b, ds = [circD K c ord, v, i, b] ∧ c.ok ∧ okS v = true ∧ (tyD i).isSome = true ∧ (tyD b).isSome = true ∧ r = .d (.bl (isPin c.gs v i b))
theorem l_is_pin (K : PySem.W.Frag) (ds : List Dt) (r : Rs) (h : R_is_pin K ds r) : ds.length = 4 := by
  obtain ⟨_, _, _, _, _, rfl, _⟩ := h
  rfl
theorem gval_find (gs : List Gt) (x : Str) : valD (gmap gs) (.inr x) = (gs.find? fun g => decide (g.l = x)).map Gt.d := by
  unfold valD gmap
  induction gs with
  | nil => rfl
  | cons g gs ih =>
    rw [List.map_cons, List.find?_cons, List.find?_cons]
    by_cases e : g.l = x
    · subst e
      simp
    · have h1 : decide ((Sum.inr g.l : Key) = Sum.inr x) = false := decide_eq_false fun h => e (Sum.inr.inj h)
      simp only [h1, decide_eq_false e]
      exact ih
theorem ep_gof (T : Txt K mg) {env : En} {c : Cp} {ord : List Gt} {i : Nat} (h : env[i]? = some (.d (circD K c ord))) : Ep P w K (tFld K (tVar i) "gate_of") env (dk (gmap c.gs)) := ep_fld (fs := CF) (ds := circE c ord) T.k_Circuit T.na (ep_var h) rfl
abbrev N_is_pin : List Str := ["circuit", "line", "index", "value", "pins"]
theorem sc_is_pin : FnScope N_is_pin ["circuit", "line", "index", "value"] (defScope s_is_pin) := ⟨rfl, rfl, rfl, by decide +kernel, rfl, by decide +kernel, by decide +kernel⟩
theorem k_is_pin (T : Txt K mg) (D : Dx K mg "_is_pin" ["circuit", "line", "index", "value"] s_is_pin)  (G_is_name : Fx P w K mg base 1 "is_name" ["value"] (spR P w K R_is_name)) (G_is_integer : Fx P w K mg base 1 "is_integer" ["value", "least", "greatest"] (spR P w K R_is_integer)) (G_is_bit : Fx P w K mg base 2 "is_bit" ["value"] (spR P w K R_is_bit)) : Fx P w K mg base 3 "_is_pin" ["circuit", "line", "index", "value"] (spR P w K (R_is_pin K)) := by
  refine Fx.of D sc_is_pin (l_is_pin K) fun f cdv A outer s H E hr => ?_
  have hu : (A.deeper (envOfC "_is_pin" (defScope s_is_pin) s.heap.objs.size f cdv)).units + 64 < cLine := hr.units
  have hu1 : (A.deeper (envOfC "_is_pin" (defScope s_is_pin) s.heap.objs.size f cdv)).units + 1 < cLine := Nat.lt_of_le_of_lt (Nat.add_le_add_left (by decide) _) hu
  refine ⟨_, (pss_cons (ps_if (PW.pt (pw_or (pt_not (pt_val (pe_fx G_is_name (hr.mono (by decide)) (pa_cons (pv 1) pa_nil)))) (pw_or1 (pt_cmp (pc_dnotin hu1 (pv 1) (pe_fld (pv 0) rfl)))))) (pss_one (ps_ret pe_bl)) pss_nil)
      (pss_cons (pset (i := 4) sc_is_pin.nd (pe_ix ix_tup (pe_dget hu1 (pe_fld (pv 0) rfl) (pv 1) (fun _ _ => rfl)) pe_int (fun _ _ => rfl)))
      (pss_one (ps_ret (pe_and (pe_fx G_is_integer (hr.mono (by decide)) (pa_cons (pv 2) (pa_cons pe_int (pa_cons (pe_op op_sub (pe_callB cr_len (by rfl) T.f_len PySem.boot_len (pa_cons (pv 4) pa_nil)) pe_int) pa_nil)))) (pe_one (pe_fx G_is_bit (hr.mono (by decide)) (pa_cons (pv 3) pa_nil)))))))), ?_⟩
  rintro ds r ⟨c, ord, v, i, b, rfl, ok, hv, hi, hb, rfl⟩
  left
  show Se P w K _ [.d (circD K c ord), .d v, .d i, .d b, .u] _
  cases hn : isName v with
  | false =>
    refine se_when (b := true) (te_p (tp_or (a := true) (b := true) (tp_is (tp_not (tp_B (ep_call (ap_cons ep_var ap_nil) ⟨v, rfl, hv, rfl⟩))) (by rw [hn]; rfl)) (fun z => nomatch z))) (fun _ => se_no ?_) (fun z => nomatch z)
    cases v <;> first | rfl | skip
    show (nameB _ && _) = false
    rw [show nameB _ = false from hn]
    rfl
  | true =>
    obtain ⟨x, rfl⟩ : ∃ x, v = .str x := by cases v <;> first | exact ⟨_, rfl⟩ | cases hn
    have hx : nameB x = true := hn
    refine se_when (b := !(valD (gmap c.gs) (.inr x)).isSome) (te_p (tp_is (tp_or (a := false) (tp_is (tp_not (tp_B (ep_call (ap_cons ep_var ap_nil) ⟨_, rfl, hv, rfl⟩))) (by rw [hn]; rfl)) fun _ => tp_test (ep_dni (kvs := gmap c.gs) (k := .inr x) (edk_d (ep_gof T rfl)) ep_var)) rfl)) (fun hs => se_no ?_) (fun hs => ?_)
    · rw [gval_find] at hs
      cases hf : c.gs.find? fun g => decide (g.l = x) with
      | some g => rw [hf] at hs; cases hs
      | none =>
        show (nameB x && (match c.gs.find? fun g => decide (g.l = x) with
          | some g => _
          | none => false)) = false
        rw [hf]
        simp
    · rw [gval_find] at hs
      cases hf : c.gs.find? fun g => decide (g.l = x) with
      | none => rw [hf] at hs; cases hs
      | some g =>
        have hg : valD (gmap c.gs) (.inr x) = some g.d := by rw [gval_find, hf]; rfl
        refine se_seq (se_asg (d := .tup (g.ps.map .str)) (ee_p (ep_op (d := g.d) (ep_dget (kvs := gmap c.gs) (k := .inr x) (edk_d (ep_gof T rfl)) ep_var hg) ep_int (itm (i := 2) rfl)))) ?_
        refine se_ret (ee_p (ep_is (ep_and (a := isInt i 0 ((g.ps.length : Int) - 1)) (b := isInt b 0 1) (ep_call (ap_cons (ep_var rfl) (ap_cons ep_int (ap_cons (ep_is (ep_op (ep_cb (ap_cons (ep_var rfl) ap_nil) rl_lenT) ep_int r2_I0) (e := .int ((g.ps.length : Int) - 1)) (by rw [List.length_map])) ap_nil))) ⟨i, 0, _, rfl, hi, rfl⟩) fun _ => ep_call (ap_cons (ep_var rfl) ap_nil) ⟨b, rfl, hb, rfl⟩) ?_))
        show _ = Dt.bl (nameB x && (match c.gs.find? fun g => decide (g.l = x) with
          | some g => isInt i 0 ((g.ps.length : Int) - 1) && isInt b 0 1
          | none => false))
        rw [hf, hx]
        rfl
end
end CC
set_option maxHeartbeats 400000
namespace CC
open PySem PySem.Spec PyProof.Rows L2 Qw
open Evl hiding ea_cons
open Pw (Dt Rp RpL Wk R2d R1d RLd RLn Kq KqL truD flatD fl py pyL rangeD charsD spX2 Xm Xm0 tyD isI isB isS isTp isL rl_isInt rl_isBool rl_isStr rl_isTup rl_isList rl_int rl_max2 rl_min2 rl_len rl_lenT rl_tup rl_tupT rl_lenS rl_all rl_any rn_list rn_listT r2_I0 r2_B0 r2_eqI r2_neI r2_eqS r2_neS r2_eq r2_ne r2_I r2_inS r2_niS r2_in r2_inT r2_ixL r2_ixT r2_ixS r2_addS r2_eqD r2_neD r2_ixM r1_U ixN_at itemD cr_int cr_min2 cr_max2 cr_list cr_tuple cr_len pe_globI pe_globS pe_globR pe_tyname rTupS rInt1 rMin2)
local macro_rules | `(tactic| walk_at "side") => `(tactic| first
  | decide | omega | assumption | (show (0 : Int) < _; omega) | exact (show CDiv _ _ from ⟨by omega, by omega⟩) | exact (show CMul _ _ from Or.inr ⟨by omega, by omega⟩) | exact (show CMul _ _ from Or.inl ⟨by omega, by omega⟩) | exact (show CPow _ _ from ⟨by decide, by decide, by decide⟩))
local macro_rules | `(tactic| walk_at "op") => `(tactic| first
  | exact r2_I0 | exact r2_B0 | exact r2_eqI | exact r2_neI | exact r2_eqS | exact r2_neS
  | exact r2_eq rfl rfl rfl | exact r2_ne rfl rfl rfl
  | (refine' r2_I ?_; walk_at "side") | exact r2_inS | exact r2_niS)
local macro_rules | `(tactic| walk_at "rl") => `(tactic| first
  | exact rl_int | exact rl_max2 | exact rl_min2 | exact rl_len | exact rl_lenT | exact rl_isInt (by first | rfl | assumption) | exact rl_isBool (by first | rfl | assumption) | exact rl_isStr (by first | rfl | assumption) | exact rl_isTup (by first | rfl | assumption) | exact rl_isList (by first | rfl | assumption) | exact rl_tup | exact rl_tupT | (refine' rl_lenS ?_; walk_at "side"))
local macro_rules | `(tactic| walk_at "ap") => `(tactic| first
  | exact ap_nil
  | (refine' ap_cons ?eah ?eat; (case eah => walk_at "ep"); (case eat => walk_at "ap")))
local macro_rules | `(tactic| walk_at "ep") => `(tactic| first
  | exact ep_int | exact ep_bl | exact ep_str | exact ep_non | exact ep_ty | exact ep_var
  | (refine' ep_op ?eva ?evb ?evc; (case eva => walk_at "ep"); (case evb => walk_at "ep"); (case evc => walk_at "op"))
  | (refine' ep_cb ?evd ?eve; (case evd => walk_at "ap"); (case eve => walk_at "rl"))
  | (refine' ep_un ?evf r1_U; (case evf => walk_at "ep"))
  | (refine' ep_tup ?evg ?evi; (case evg => walk_at "ap"); (case evi => exact Nat.le_of_ble_eq_true rfl))
  | (refine' ep_lst ?evh ?evj; (case evh => walk_at "ap"); (case evj => exact Nat.le_of_ble_eq_true rfl))
  | assumption)
local macro_rules | `(tactic| walk_at "ee") => `(tactic| (refine' ee_p ?eep; (case eep => walk_at "ep")))
local macro_rules | `(tactic| walk_at "te") => `(tactic| (refine' te_p ?tep; (case tep => walk_at "tp")))
local macro_rules | `(tactic| walk_at "tp") => `(tactic| first
  | (refine' tp_test ?tea; (case tea => walk_at "ep"))
  | (refine' tp_B ?teb; (case teb => walk_at "ep"))
  | (refine' tp_not ?tec; (case tec => walk_at "tp"))
  | (refine' tp_or ?ted ?tee; (case ted => walk_at "tp"); (case tee => intro _; walk_at "tp"))
  | (refine' tp_and ?tef ?teg; (case tef => walk_at "tp"); (case teg => intro _; walk_at "tp"))
  | assumption)
section
variable {P : Program} {w : World} {K : PySem.W.Frag} {mg : Str → Option Value} {base : Heap}
def ltS (a b : Str) : Bool := decide (a.cps.toList < b.cps.toList)
def isAO : Dt → Bool
  | .str k => decide (k ∈ (["and", "or"] : List Str))
  | _ => false
def apart (gs : List Gt) : Dt → Dt → Bool
  | .str x, .str y => ltS x y && (!decide (x ∈ aboveL gs y) && !decide (y ∈ aboveL gs x))
  | _, _ => false
def isShort (c : Cp) (a b k : Dt) : Bool := isAO k && (isLine (linesOf c.is c.rs c.gs) a && (isLine (linesOf c.is c.rs c.gs) b && apart c.gs a b))
def R_is_short (K : PySem.W.Frag) (ds : List Dt) (r : Rs) : Prop := ∃ c ord a b k, ds = [circD K c ord, a, b, k] ∧ c.ok ∧ okS a = true ∧ okS b = true ∧ (tyD k).isSome = true ∧ r = .d (.bl (isShort c a b k))
theorem l_is_short (K : PySem.W.Frag) (ds : List Dt) (r : Rs) (h : R_is_short K ds r) : ds.length = 4 := by
  obtain ⟨_, _, _, _, _, rfl, _⟩ := h
  rfl
theorem notin_strsT (k : Str) (xs : List Str) : R2d K (rIn K true) (.str k) (.tup (xs.map .str)) (.bl (!decide (k ∈ xs))) := by
  have h := r2_inT (K := K) (neg := true) (d := .str k) (ds := xs.map Dt.str) rfl (flat_strsD xs) rfl (flat_strsV xs)
  rw [fl_strs] at h
  have e : inV (Pw.fl (.str k)) (xs.map V.str) = decide (k ∈ xs) := inV_strs k xs
  rw [e] at h
  exact h
theorem r2_ltS {a b : Str} : R2d K (fun x y H Q => ∃ i j, x = V.str i ∧ y = V.str j ∧ Q (.bl (decide (i.cps.toList < j.cps.toList))) H) (.str a) (.str b) (.bl (ltS a b)) := fun F H x y s r1 r2 Q q => ⟨a, b, r1, r2, q _ F H (Wk.refl s) rfl⟩
theorem edk_above {env : En} {c : Cp} {ord : List Gt} {i j : Nat} {x : Str} (h : env[i]? = some (.d (circD K c ord))) (hj : env[j]? = some (.d (.str x))) (ok : c.ok) : Edk P w K (tMeth (He.ga K "Circuit") "above" (spR P w K (R_Circuit_above K)) [] E0 (tVar i) (tCons (tVar j) tNil)) env (kn (aboveL c.gs x)) :=
  edk_d (po_dt (po_meth (u := .dk (kn (aboveL c.gs x))) (ep_var h) (ap_cons (ep_var hj) ap_nil) ⟨c, ord, x, rfl, ok, rfl⟩) rfl)
abbrev N_is_short : List Str := ["circuit", "one", "other", "kind"]
theorem sc_is_short : FnScope N_is_short ["circuit", "one", "other", "kind"] (defScope s_is_short) := ⟨rfl, rfl, rfl, by decide +kernel, rfl, by decide +kernel, by decide +kernel⟩
theorem k_is_short (T : Txt K mg) (D : Dx K mg "_is_short" ["circuit", "one", "other", "kind"] s_is_short)  (G__is_line : Fx P w K mg base 3 "_is_line" ["circuit", "value"] (spR P w K (R_is_line K))) (M_Circuit_above : Mx P w K mg base 1 (He.ga K "Circuit") "above" ["self", "line"] (spR P w K (R_Circuit_above K))) : Fx P w K mg base 4 "_is_short" ["circuit", "one", "other", "kind"] (spR P w K (R_is_short K)) := by
  refine Fx.of D sc_is_short (l_is_short K) fun f cdv A outer s H E hr => ?_
  have hu : (A.deeper (envOfC "_is_short" (defScope s_is_short) s.heap.objs.size f cdv)).units + 64 < cLine := hr.units
  have hu1 : (A.deeper (envOfC "_is_short" (defScope s_is_short) s.heap.objs.size f cdv)).units + 1 < cLine := Nat.lt_of_le_of_lt (Nat.add_le_add_left (by decide) _) hu
  refine ⟨_, (pss_cons (ps_if (PW.pt (pw_or (pt_not (pt_val (pe_callB call_isi (by rfl) T.f_isinstance (by decide +kernel) (pa_cons (pv 3) (pa_cons (pe_tyname (n := "str") T.f_str) pa_nil))))) (pw_or1 (pt_cmpR op_notIn_seq (pv 3) (pe_tup (pa_cons pe_str (pa_cons pe_str pa_nil))) rfl)))) (pss_one (ps_ret pe_bl)) pss_nil)
      (pss_cons (ps_if (PW.pt (pw_or (pt_not (pt_val (pe_fx G__is_line (hr.mono (by decide)) (pa_cons (pv 0) (pa_cons (pv 1) pa_nil))))) (pw_or1 (pt_not (pt_val (pe_fx G__is_line (hr.mono (by decide)) (pa_cons (pv 0) (pa_cons (pv 2) pa_nil)))))))) (pss_one (ps_ret pe_bl)) pss_nil)
      (pss_one (ps_ret (pe_and (pe_cmpR op_lt_str (pv 1) (pv 2) (nomark _)) (pe_and (pe_cmp (pc_dnotin hu1 (pv 1) (pe_mx M_Circuit_above T.k_Circuit (hr.mono (by decide)) (pv 0) (pa_cons (pv 2) pa_nil)))) (pe_one (pe_cmp (pc_dnotin hu1 (pv 2) (pe_mx M_Circuit_above T.k_Circuit (hr.mono (by decide)) (pv 0) (pa_cons (pv 1) pa_nil))))))))))), ?_⟩
  rintro ds r ⟨c, ord, a, b, k, rfl, ok, ha, hb, hk, rfl⟩
  left
  show Se P w K _ [.d (circD K c ord), .d a, .d b, .d k] _
  refine se_when (b := !isAO k) (te_p ?_) (fun hs => se_no ?_) (fun hs => ?_)
  · cases hS : isS k with
    | false =>
      refine tp_is (tp_or (a := true) (b := true) (tp_is (tp_not (a := isS k) (by walk_at "tp")) (by rw [hS]; rfl)) (fun z => nomatch z)) ?_
      cases k <;> first | rfl | cases hS
    | true =>
      obtain ⟨x, rfl⟩ : ∃ x, k = .str x := by cases k <;> first | exact ⟨_, rfl⟩ | cases hS
      exact tp_is (tp_or (a := false) (tp_is (tp_not (a := true) (by walk_at "tp")) rfl) fun _ => tp_test (ep_op ep_var (by walk_at "ep") (notin_strsT x ["and", "or"]))) rfl
  · unfold isShort
    rw [show isAO k = false by simpa using hs]
    rfl
  have hAO : isAO k = true := by simpa using hs
  refine se_when (b := !isLine (linesOf c.is c.rs c.gs) a || !isLine (linesOf c.is c.rs c.gs) b) (te_p (tp_or (tp_not (tp_B (ep_call (ap_cons ep_var (ap_cons ep_var ap_nil)) ⟨c, ord, a, rfl, ok, ha, rfl⟩))) fun _ => tp_not (tp_B (ep_call (ap_cons ep_var (ap_cons ep_var ap_nil)) ⟨c, ord, b, rfl, ok, hb, rfl⟩)))) (fun hs => se_no ?_) (fun hs => ?_)
  · unfold isShort
    rw [hAO]
    cases h1 : isLine (linesOf c.is c.rs c.gs) a with
    | false => rfl
    | true =>
      cases h2 : isLine (linesOf c.is c.rs c.gs) b with
      | false => rfl
      | true => rw [h1, h2] at hs; cases hs
  simp only [Bool.or_eq_false_iff, Bool.not_eq_false'] at hs
  obtain ⟨h1, h2⟩ := hs
  obtain ⟨x, rfl⟩ : ∃ x, a = .str x := by cases a <;> first | exact ⟨_, rfl⟩ | cases h1
  obtain ⟨y, rfl⟩ : ∃ x, b = .str x := by cases b <;> first | exact ⟨_, rfl⟩ | cases h2
  have e : isShort c (.str x) (.str y) k = (ltS x y && (!decide (x ∈ aboveL c.gs y) && !decide (y ∈ aboveL c.gs x))) := by
    unfold isShort
    rw [hAO, h1, h2]
    rfl
  rw [e]
  refine se_ret (ee_p (ep_and (ep_op ep_var ep_var r2_ltS) fun _ => ep_and (ep_is (ep_dni (kvs := kn (aboveL c.gs y)) (k := .inr x) (edk_above rfl rfl ok) ep_var) (by rw [val_kn])) fun _ => ep_is (ep_dni (kvs := kn (aboveL c.gs x)) (k := .inr y) (edk_above rfl rfl ok) ep_var) (by rw [val_kn])))
end
section
variable {P : Program} {w : World} {K : PySem.W.Frag} {mg : Str → Option Value} {base : Heap}
def isBrk (c : Cp) : Dt → Bool
  | .tup [.str w, a, b] => decide (w = "stem") && (isLine (linesOf c.is c.rs c.gs) a && isInt b 0 1)
  | .tup [.str w, a, b, d] => if w = "pin" then isPin c.gs a b d else decide (w = "short") && isShort c a b d
  | _ => false
def okV : Dt → Bool
  | .tup xs => decide (xs.length ≤ 1000) && xs.all okS
  | d => (tyD d).isSome
def R_is_break (K : PySem.W.Frag) (ds : List Dt) (r : Rs) : Prop := ∃ c ord v, ds = [circD K c ord, v] ∧ c.ok ∧ okV v = true ∧ r = .d (.bl (isBrk c v))
theorem l_is_break (K : PySem.W.Frag) (ds : List Dt) (r : Rs) (h : R_is_break K ds r) : ds.length = 2 := by
  obtain ⟨_, _, _, rfl, _⟩ := h
  rfl
theorem okV_ty {v : Dt} (h : okV v = true) : (tyD v).isSome = true := by
  cases v <;> first | exact h | rfl
theorem notin34 (n : Int) : R2d K (rIn K true) (.int n) (.tup [.int 3, .int 4]) (.bl (!(decide (n = 3) || decide (n = 4)))) := by
  have h := r2_inT (K := K) (neg := true) (d := .int n) (ds := [.int 3, .int 4]) rfl rfl rfl rfl
  have e : inV (Pw.fl (.int n)) (([.int 3, .int 4] : List Dt).map Pw.fl) = (decide (n = 3) || decide (n = 4)) := by
    show (((3 : Int) == n) || (((4 : Int) == n) || false)) = _
    rw [Bool.or_false]
    congr 1 <;> exact decide_eq_decide.mpr eq_comm
  rw [e] at h
  exact h
abbrev N_is_break : List Str := ["circuit", "value", "word"]
theorem sc_is_break : FnScope N_is_break ["circuit", "value"] (defScope s_is_break) := ⟨rfl, rfl, rfl, by decide +kernel, rfl, by decide +kernel, by decide +kernel⟩
theorem k_is_break (T : Txt K mg) (D : Dx K mg "is_break" ["circuit", "value"] s_is_break)  (G__is_stem : Fx P w K mg base 4 "_is_stem" ["circuit", "line", "value"] (spR P w K (R_is_stem K))) (G__is_pin : Fx P w K mg base 3 "_is_pin" ["circuit", "line", "index", "value"] (spR P w K (R_is_pin K))) (G__is_short : Fx P w K mg base 4 "_is_short" ["circuit", "one", "other", "kind"] (spR P w K (R_is_short K))) : Fx P w K mg base 5 "is_break" ["circuit", "value"] (spR P w K (R_is_break K)) := by
  refine Fx.of D sc_is_break (l_is_break K) fun f cdv A outer s H E hr => ?_
  refine ⟨_, (pss_cons (ps_if (PW.pt (pw_or (pt_not (pt_val (pe_callB call_isi (by rfl) T.f_isinstance (by decide +kernel) (pa_cons (pv 1) (pa_cons (pe_tyname (n := "tuple") T.f_tuple) pa_nil))))) (pw_or1 (pt_cmpR op_notIn_seq (pe_callB cr_len (by rfl) T.f_len PySem.boot_len (pa_cons (pv 1) pa_nil)) (pe_tup (pa_cons pe_int (pa_cons pe_int pa_nil))) rfl)))) (pss_one (ps_ret pe_bl)) pss_nil)
      (pss_cons (pset (i := 2) sc_is_break.nd (pe_ix ix_tup (pv 1) pe_int (fun _ _ => rfl)))
      (pss_cons (ps_if (pt_not (pt_val (pe_callB call_isi (by rfl) T.f_isinstance (by decide +kernel) (pa_cons (pv 2) (pa_cons (pe_tyname (n := "str") T.f_str) pa_nil))))) (pss_one (ps_ret pe_bl)) pss_nil)
      (pss_cons (ps_if (pt_cmpR op_eq (pe_callB cr_len (by rfl) T.f_len PySem.boot_len (pa_cons (pv 1) pa_nil)) pe_int (nomark _)) (pss_one (ps_ret (pe_and (pe_cmpR op_eq (pv 2) pe_str (nomark _)) (pe_one (pe_fx G__is_stem (hr.mono (by decide)) (pa_cons (pv 0) (pa_cons (pe_ix ix_tup (pv 1) pe_int (fun _ _ => rfl)) (pa_cons (pe_ix ix_tup (pv 1) pe_int (fun _ _ => rfl)) pa_nil)))))))) pss_nil)
      (pss_cons (ps_if (pt_cmpR op_eq (pv 2) pe_str (nomark _)) (pss_one (ps_ret (pe_fx G__is_pin (hr.mono (by decide)) (pa_cons (pv 0) (pa_cons (pe_ix ix_tup (pv 1) pe_int (fun _ _ => rfl)) (pa_cons (pe_ix ix_tup (pv 1) pe_int (fun _ _ => rfl)) (pa_cons (pe_ix ix_tup (pv 1) pe_int (fun _ _ => rfl)) pa_nil))))))) pss_nil)
      (pss_one (ps_ret (pe_and (pe_cmpR op_eq (pv 2) pe_str (nomark _)) (pe_one (pe_fx G__is_short (hr.mono (by decide)) (pa_cons (pv 0) (pa_cons (pe_ix ix_tup (pv 1) pe_int (fun _ _ => rfl)) (pa_cons (pe_ix ix_tup (pv 1) pe_int (fun _ _ => rfl)) (pa_cons (pe_ix ix_tup (pv 1) pe_int (fun _ _ => rfl)) pa_nil)))))))))))))), ?_⟩
  rintro ds r ⟨c, ord, v, rfl, ok, hv, rfl⟩
  left
  show Se P w K _ [.d (circD K c ord), .d v, .u] _
  have ht := okV_ty hv
  cases hT : isTp v with
  | false =>
    refine se_when (b := true) (te_p (tp_or (a := true) (b := true) (tp_is (tp_not (a := isTp v) (by walk_at "tp")) (by rw [hT]; rfl)) (fun z => nomatch z))) (fun _ => se_no ?_) (fun z => nomatch z)
    cases v <;> first | rfl | cases hT
  | true =>
    obtain ⟨xs, rfl⟩ : ∃ x, v = .tup x := by cases v <;> first | exact ⟨_, rfl⟩ | cases hT
    obtain ⟨hz, hs⟩ := Bool.and_eq_true_iff.mp (show (decide (xs.length ≤ 1000) && xs.all okS) = true from hv)
    have hok : ∀ d ∈ xs, okS d = true := List.all_eq_true.mp hs
    refine se_when (b := !(decide ((xs.length : Int) = 3) || decide ((xs.length : Int) = 4))) (te_p (tp_is (tp_or (a := false) (tp_is (tp_not (a := true) (by walk_at "tp")) rfl) fun _ => tp_test (ep_op (ep_cb (ap_cons ep_var ap_nil) rl_lenT) (by walk_at "ep") (notin34 _))) rfl)) (fun hb => se_no ?_) (fun hb => ?_)
    · simp only [Bool.not_eq_true', Bool.or_eq_false_iff, decide_eq_false_iff_not] at hb
      unfold isBrk
      split
      · rename_i e; cases e; exact absurd rfl hb.1
      · rename_i e; cases e; exact absurd rfl hb.2
      · rfl
    · have h34 : xs.length = 3 ∨ xs.length = 4 := by
        simp only [Bool.not_eq_false', Bool.or_eq_true, decide_eq_true_eq] at hb
        omega
      have hne : 0 < xs.length := by omega
      obtain ⟨t, l, rfl⟩ : ∃ t l, xs = t :: l := by
        match xs, hne with
        | t :: l, _ => exact ⟨t, l, rfl⟩
      have htt := okS_ty (hok t (by simp))
      refine se_seq (se_asg (d := t) (ee_p (ep_op ep_var ep_int (itm (i := 0) rfl)))) ?_
      cases hS : isS t with
      | false =>
        refine se_when (b := true) (te_p (tp_is (tp_not (a := isS t) (by walk_at "tp")) (by rw [hS]; rfl))) (fun _ => se_no ?_) (fun z => nomatch z)
        unfold isBrk
        split
        · rename_i e; cases e; cases hS
        · rename_i e; cases e; cases hS
        · rfl
      | true =>
        obtain ⟨wd, rfl⟩ : ∃ x, t = .str x := by cases t <;> first | exact ⟨_, rfl⟩ | cases hS
        refine se_when (b := false) (te_p (tp_is (tp_not (a := true) (by walk_at "tp")) rfl)) (fun z => nomatch z) (fun _ => ?_)
        rcases h34 with h3 | h4
        · obtain ⟨a, b, rfl⟩ : ∃ a b, l = [a, b] := by
            match l, h3 with
            | [a, b], _ => exact ⟨a, b, rfl⟩
          refine se_when (b := true) (te_p (tp_is (tp_test (ep_op (ep_cb (ap_cons (ep_var rfl) ap_nil) rl_lenT) ep_int r2_eqI)) rfl)) (fun _ => ?_) (fun z => nomatch z)
          exact se_seqF (se_ret (ee_p (ep_and (ep_op (ep_var rfl) ep_str r2_eqS) fun _ => ep_call (ap_cons (ep_var rfl) (ap_cons (ep_op (ep_var rfl) ep_int (itm (i := 1) rfl)) (ap_cons (ep_op (ep_var rfl) ep_int (itm (i := 2) rfl)) ap_nil))) ⟨c, ord, a, b, rfl, ok, hok a (by simp), okS_ty (hok b (by simp)), rfl⟩)))
        · obtain ⟨a, b, d, rfl⟩ : ∃ a b d, l = [a, b, d] := by
            match l, h4 with
            | [a, b, d], _ => exact ⟨a, b, d, rfl⟩
          refine se_when (b := false) (te_p (tp_is (tp_test (ep_op (ep_cb (ap_cons (ep_var rfl) ap_nil) rl_lenT) ep_int r2_eqI)) rfl)) (fun z => nomatch z) (fun _ => ?_)
          have hA : EpA P w K (tCons (tVar 0) (tCons (tOp (rIxT K) (tVar 1) (tC (.int 1))) (tCons (tOp (rIxT K) (tVar 1) (tC (.int 2))) (tCons (tOp (rIxT K) (tVar 1) (tC (.int 3))) tNil)))) [.d (circD K c ord), .d (.tup [.str wd, a, b, d]), .d (.str wd)] [circD K c ord, a, b, d] :=
            ap_cons (ep_var rfl) (ap_cons (ep_op (ep_var rfl) ep_int (itm (i := 1) rfl)) (ap_cons (ep_op (ep_var rfl) ep_int (itm (i := 2) rfl)) (ap_cons (ep_op (ep_var rfl) ep_int (itm (i := 3) rfl)) ap_nil)))
          have eB : isBrk c (.tup [.str wd, a, b, d]) = if wd = "pin" then isPin c.gs a b d else decide (wd = "short") && isShort c a b d := rfl
          rw [eB]
          refine se_when (b := decide (wd = "pin")) (te_p (tp_test (ep_op (ep_var rfl) ep_str r2_eqS))) (fun hp => ?_) (fun hp => ?_)
          · rw [if_pos (of_decide_eq_true hp)]
            exact se_seqF (se_ret (ee_p (ep_call hA ⟨c, ord, a, b, d, rfl, ok, hok a (by simp), okS_ty (hok b (by simp)), okS_ty (hok d (by simp)), rfl⟩)))
          · rw [if_neg (of_decide_eq_false hp)]
            exact se_ret (ee_p (ep_and (ep_op (ep_var rfl) ep_str r2_eqS) fun _ => ep_call hA ⟨c, ord, a, b, d, rfl, ok, hok a (by simp), hok b (by simp), okS_ty (hok d (by simp)), rfl⟩))
end
end CC
set_option maxHeartbeats 400000
namespace CC
open PySem PySem.Spec PyProof.Rows L2 Qw
open Evl hiding ea_cons
open Pw (Dt Rp RpL Wk R2d R1d RLd RLn Kq KqL truD flatD fl py pyL rangeD charsD spX2 Xm Xm0 tyD isI isB isS isTp isL rl_isInt rl_isBool rl_isStr rl_isTup rl_isList rl_int rl_max2 rl_min2 rl_len rl_lenT rl_tup rl_tupT rl_lenS rl_all rl_any rn_list rn_listT r2_I0 r2_B0 r2_eqI r2_neI r2_eqS r2_neS r2_eq r2_ne r2_I r2_inS r2_niS r2_in r2_inT r2_ixL r2_ixT r2_ixS r2_addS r2_eqD r2_neD r2_ixM r1_U ixN_at itemD cr_int cr_min2 cr_max2 cr_list cr_tuple cr_len pe_globI pe_globS pe_globR pe_tyname rTupS rInt1 rMin2)
local macro_rules | `(tactic| walk_at "side") => `(tactic| first
  | decide | omega | assumption | (show (0 : Int) < _; omega) | exact (show CDiv _ _ from ⟨by omega, by omega⟩) | exact (show CMul _ _ from Or.inr ⟨by omega, by omega⟩) | exact (show CMul _ _ from Or.inl ⟨by omega, by omega⟩) | exact (show CPow _ _ from ⟨by decide, by decide, by decide⟩))
local macro_rules | `(tactic| walk_at "op") => `(tactic| first
  | exact r2_I0 | exact r2_B0 | exact r2_eqI | exact r2_neI | exact r2_eqS | exact r2_neS
  | exact r2_eq rfl rfl rfl | exact r2_ne rfl rfl rfl
  | (refine' r2_I ?_; walk_at "side") | exact r2_inS | exact r2_niS)
local macro_rules | `(tactic| walk_at "rl") => `(tactic| first
  | exact rl_int | exact rl_max2 | exact rl_min2 | exact rl_len | exact rl_lenT | exact rl_isInt (by first | rfl | assumption) | exact rl_isBool (by first | rfl | assumption) | exact rl_isStr (by first | rfl | assumption) | exact rl_isTup (by first | rfl | assumption) | exact rl_isList (by first | rfl | assumption) | exact rl_tup | exact rl_tupT | (refine' rl_lenS ?_; walk_at "side"))
local macro_rules | `(tactic| walk_at "ap") => `(tactic| first
  | exact ap_nil
  | (refine' ap_cons ?eah ?eat; (case eah => walk_at "ep"); (case eat => walk_at "ap")))
local macro_rules | `(tactic| walk_at "ep") => `(tactic| first
  | exact ep_int | exact ep_bl | exact ep_str | exact ep_non | exact ep_ty | exact ep_var
  | (refine' ep_op ?eva ?evb ?evc; (case eva => walk_at "ep"); (case evb => walk_at "ep"); (case evc => walk_at "op"))
  | (refine' ep_cb ?evd ?eve; (case evd => walk_at "ap"); (case eve => walk_at "rl"))
  | (refine' ep_un ?evf r1_U; (case evf => walk_at "ep"))
  | (refine' ep_tup ?evg ?evi; (case evg => walk_at "ap"); (case evi => exact Nat.le_of_ble_eq_true rfl))
  | (refine' ep_lst ?evh ?evj; (case evh => walk_at "ap"); (case evj => exact Nat.le_of_ble_eq_true rfl))
  | assumption)
local macro_rules | `(tactic| walk_at "ee") => `(tactic| (refine' ee_p ?eep; (case eep => walk_at "ep")))
local macro_rules | `(tactic| walk_at "te") => `(tactic| (refine' te_p ?tep; (case tep => walk_at "tp")))
local macro_rules | `(tactic| walk_at "tp") => `(tactic| first
  | (refine' tp_test ?tea; (case tea => walk_at "ep"))
  | (refine' tp_B ?teb; (case teb => walk_at "ep"))
  | (refine' tp_not ?tec; (case tec => walk_at "tp"))
  | (refine' tp_or ?ted ?tee; (case ted => walk_at "tp"); (case tee => intro _; walk_at "tp"))
  | (refine' tp_and ?tef ?teg; (case tef => walk_at "tp"); (case teg => intro _; walk_at "tp"))
  | assumption)
section
variable {P : Program} {w : World} {K : PySem.W.Frag} {mg : Str → Option Value} {base : Heap}
def isNone : Dt → Bool
  | .non => true
  | _ => false
theorem r2_notNone {d : Dt} (hd : okV d = true) : R2d K rNotN d .non (.bl (!isNone d)) := fun F H x y s r1 r2 Q q => by
  cases r2
  refine ⟨rfl, ?_⟩
  have e : (!decide (x = V.non)) = !isNone d := by
    cases d <;> first
      | (cases r1; rfl)
      | (obtain ⟨a, vs, rfl, _⟩ := r1; rfl)
      | cases hd
  rw [e]
  exact q _ F H (Wk.refl s) rfl
def verOk (c : Cp) (v : Dt) : Prop := isNone v = true ∨ isBrk c v = true
instance (c : Cp) (v : Dt) : Decidable (verOk c v) := inferInstanceAs (Decidable (_ ∨ _))
def badB (K : PySem.W.Frag) : Xn := ⟨He.ga K "BadBreak", [], []⟩
def R_check_version (K : PySem.W.Frag) (ds : List Dt) (r : Rs) : Prop := ∃ c ord v, ds = [circD K c ord, v] ∧ c.ok ∧ okV v = true ∧ r = if verOk c v then .d .non else .x (badB K)
theorem l_check_version (K : PySem.W.Frag) (ds : List Dt) (r : Rs) (h : R_check_version K ds r) : ds.length = 2 := by
  obtain ⟨_, _, _, rfl, _⟩ := h
  rfl
abbrev N_check_version : List Str := ["circuit", "version"]
theorem sc_check_version : FnScope N_check_version ["circuit", "version"] (defScope s_check_version) := ⟨rfl, rfl, rfl, by decide +kernel, rfl, by decide +kernel, by decide +kernel⟩
theorem k_check_version (T : Txt K mg) (D : Dx K mg "check_version" ["circuit", "version"] s_check_version)  (G_is_break : Fx P w K mg base 5 "is_break" ["circuit", "value"] (spR P w K (R_is_break K))) (X_BadBreak : Xm1 K mg "BadBreak" (He.ga K "BadBreak")) : Fx P w K mg base 6 "check_version" ["circuit", "version"] (spR P w K (R_check_version K)) := by
  refine Fx.ofX D sc_check_version (l_check_version K) fun f cdv A outer s H E hr tk => ?_
  refine ⟨_, (pss_one (ps_if (PW.pt (pw_and (pt_cmpR op_notN1 (pv 1) pe_non (nomark _)) (pw_and1 (pt_not (pt_val (pe_fx G_is_break (hr.mono (by decide)) (pa_cons (pv 0) (pa_cons (pv 1) pa_nil)))))))) (pss_one (ps_raise rfl tk (pm_1 X_BadBreak))) pss_nil)), ?_⟩
  rintro ds r ⟨c, ord, v, rfl, ok, hv, rfl⟩
  show Does P w K E _ [.d (circD K c ord), .d v] _
  refine does_if (e := [.d (circD K c ord), .d v]) ?_
  refine se_if (b := !isNone v && !isBrk c v) (te_p (tp_and (tp_test (ep_op ep_var ep_non (r2_notNone hv))) fun _ => tp_not (tp_B (ep_call (ap_cons ep_var (ap_cons ep_var ap_nil)) ⟨c, ord, v, rfl, ok, hv, rfl⟩)))) (fun hb => ?_) (fun hb => ?_)
  · rw [if_neg]
    · exact se_raise0
    · simp only [Bool.and_eq_true, Bool.not_eq_true'] at hb
      rintro (z | z)
      · rw [hb.1] at z; cases z
      · rw [hb.2] at z; cases z
  · rw [if_pos]
    · exact se_next
    · unfold verOk
      cases h1 : isNone v with
      | true => exact .inl rfl
      | false =>
        cases h2 : isBrk c v with
        | true => exact .inr rfl
        | false => rw [h1, h2] at hb; cases hb
end
end CC
set_option maxHeartbeats 400000
namespace CC
open PySem PySem.Spec PyProof.Rows L2 Qw
open Evl hiding ea_cons
open Pw (Dt Rp RpL Wk R2d R1d RLd RLn Kq KqL truD flatD fl py pyL rangeD charsD spX2 Xm Xm0 tyD isI isB isS isTp isL rl_isInt rl_isBool rl_isStr rl_isTup rl_isList rl_int rl_max2 rl_min2 rl_len rl_lenT rl_tup rl_tupT rl_lenS rl_all rl_any rn_list rn_listT r2_I0 r2_B0 r2_eqI r2_neI r2_eqS r2_neS r2_eq r2_ne r2_I r2_inS r2_niS r2_in r2_inT r2_ixL r2_ixT r2_ixS r2_addS r2_eqD r2_neD r2_ixM r1_U ixN_at itemD cr_int cr_min2 cr_max2 cr_list cr_tuple cr_len pe_globI pe_globS pe_globR pe_tyname rTupS rInt1 rMin2)
local macro_rules | `(tactic| walk_at "side") => `(tactic| first
  | decide | omega | assumption | (show (0 : Int) < _; omega) | exact (show CDiv _ _ from ⟨by omega, by omega⟩) | exact (show CMul _ _ from Or.inr ⟨by omega, by omega⟩) | exact (show CMul _ _ from Or.inl ⟨by omega, by omega⟩) | exact (show CPow _ _ from ⟨by decide, by decide, by decide⟩))
local macro_rules | `(tactic| walk_at "op") => `(tactic| first
  | exact r2_I0 | exact r2_B0 | exact r2_eqI | exact r2_neI | exact r2_eqS | exact r2_neS
  | exact r2_eq rfl rfl rfl | exact r2_ne rfl rfl rfl
  | (refine' r2_I ?_; walk_at "side") | exact r2_inS | exact r2_niS)
local macro_rules | `(tactic| walk_at "rl") => `(tactic| first
  | exact rl_int | exact rl_max2 | exact rl_min2 | exact rl_len | exact rl_lenT | exact rl_isInt (by first | rfl | assumption) | exact rl_isBool (by first | rfl | assumption) | exact rl_isStr (by first | rfl | assumption) | exact rl_isTup (by first | rfl | assumption) | exact rl_isList (by first | rfl | assumption) | exact rl_tup | exact rl_tupT | (refine' rl_lenS ?_; walk_at "side"))
local macro_rules | `(tactic| walk_at "ap") => `(tactic| first
  | exact ap_nil
  | (refine' ap_cons ?eah ?eat; (case eah => walk_at "ep"); (case eat => walk_at "ap")))
local macro_rules | `(tactic| walk_at "ep") => `(tactic| first
  | exact ep_int | exact ep_bl | exact ep_str | exact ep_non | exact ep_ty | exact ep_var
  | (refine' ep_op ?eva ?evb ?evc; (case eva => walk_at "ep"); (case evb => walk_at "ep"); (case evc => walk_at "op"))
  | (refine' ep_cb ?evd ?eve; (case evd => walk_at "ap"); (case eve => walk_at "rl"))
  | (refine' ep_un ?evf r1_U; (case evf => walk_at "ep"))
  | (refine' ep_tup ?evg ?evi; (case evg => walk_at "ap"); (case evi => exact Nat.le_of_ble_eq_true rfl))
  | (refine' ep_lst ?evh ?evj; (case evh => walk_at "ap"); (case evj => exact Nat.le_of_ble_eq_true rfl))
  | assumption)
local macro_rules | `(tactic| walk_at "ee") => `(tactic| (refine' ee_p ?eep; (case eep => walk_at "ep")))
local macro_rules | `(tactic| walk_at "te") => `(tactic| (refine' te_p ?tep; (case tep => walk_at "tp")))
local macro_rules | `(tactic| walk_at "tp") => `(tactic| first
  | (refine' tp_test ?tea; (case tea => walk_at "ep"))
  | (refine' tp_B ?teb; (case teb => walk_at "ep"))
  | (refine' tp_not ?tec; (case tec => walk_at "tp"))
  | (refine' tp_or ?ted ?tee; (case ted => walk_at "tp"); (case tee => intro _; walk_at "tp"))
  | (refine' tp_and ?tef ?teg; (case tef => walk_at "tp"); (case teg => intro _; walk_at "tp"))
  | assumption)
section
variable {P : Program} {w : World} {K : PySem.W.Frag} {mg : Str → Option Value} {base : Heap}
open Mw
theorem fx_imp {k : Nat} {x : Str} {ps : List Str} {R R' : List Dt → Rs → Prop} (M : Fx P w K mg base k x ps (spR P w K R)) (h : ∀ ds r, R' ds r → R ds r) : Fx P w K mg base k x ps (spR P w K R') := by
  obtain ⟨f, fd, h1, h2, h3, h4⟩ := M
  exact ⟨f, fd, h1, h2, h3, fnOk_imp h4 (spR_imp h)⟩
instance (c : Cp) : Decidable c.ok := by unfold Cp.ok; infer_instance
theorem got_need {α : Type} {c : Prop} [Decidable c] {m : R α} {er : α → Rs} {r : Rs} (h : Got K (R.need c m) er r) : c ∧ Got K m er r := by
  unfold R.need at h
  split at h
  · exact ⟨by assumption, h⟩
  · exact h.elim
def m_Circuit_sources (p : CV) : R (List Str) := R.need p.1.ok (.ok (srcOf p.1.is p.1.rs))
def m_Circuit_sinks (p : CV) : R (List Str) := R.need p.1.ok (.ok (sinkOf p.1.os p.1.rs))
abbrev Z_Circuit_sources (K : PySem.W.Frag) := RF K (fun (a_ : CV × Unit) => [eCircuit K a_.1]) (fun a_ => m_Circuit_sources a_.1) (fun (b_ : List Str) => .o (oL eS b_))
abbrev Z_Circuit_sinks (K : PySem.W.Frag) := RF K (fun (a_ : CV × Unit) => [eCircuit K a_.1]) (fun a_ => m_Circuit_sinks a_.1) (fun (b_ : List Str) => .o (oL eS b_))
theorem z_Circuit_sources (ds : List Dt) (r : Rs) (h : Z_Circuit_sources K ds r) : R_Circuit_sources K ds r := by
  obtain ⟨⟨p, _⟩, rfl, h⟩ := h
  obtain ⟨ok, h⟩ := got_need h
  exact ⟨CF, circE p.1 p.2, p.1, rfl, hasp p.1 p.2, ok, h⟩
theorem z_Circuit_sinks (ds : List Dt) (r : Rs) (h : Z_Circuit_sinks K ds r) : R_Circuit_sinks K ds r := by
  obtain ⟨⟨p, _⟩, rfl, h⟩ := h
  obtain ⟨ok, h⟩ := got_need h
  exact ⟨CF, circE p.1 p.2, p.1, rfl, hasp p.1 p.2, ok, h⟩
def m_is_integer (v : Dt) (a b : Int) : R Bool := R.need ((Pw.tyD v).isSome = true) (.ok (isInt v a b))
def m_is_bit (v : Dt) : R Bool := R.need ((Pw.tyD v).isSome = true) (.ok (isInt v 0 1))
def badBk : Exn := ⟨"BadBreak", [], []⟩
def m_check_version (p : CV) (v : Dt) : R Unit := R.need (p.1.ok ∧ okV v = true) (if verOk p.1 v then .ok () else .ex badBk)
abbrev Z_is_integer (K : PySem.W.Frag) := RF K (fun (a_ : Dt × Int × Int × Unit) => [eD a_.1, eI a_.2.1, eI a_.2.2.1]) (fun a_ => m_is_integer a_.1 a_.2.1 a_.2.2.1) (fun (b_ : Bool) => .d (eB b_))
abbrev Z_is_bit (K : PySem.W.Frag) := RF K (fun (a_ : Dt × Unit) => [eD a_.1]) (fun a_ => m_is_bit a_.1) (fun (b_ : Bool) => .d (eB b_))
abbrev Z_check_version (K : PySem.W.Frag) := RF K (fun (a_ : CV × Dt × Unit) => [eCircuit K a_.1, eD a_.2.1]) (fun a_ => m_check_version a_.1 a_.2.1) (fun (b_ : Unit) => .d (eU b_))
theorem z_is_integer (ds : List Dt) (r : Rs) (h : Z_is_integer K ds r) : R_is_integer ds r := by
  obtain ⟨⟨v, a, b, _⟩, rfl, h⟩ := h
  obtain ⟨ok, h⟩ := got_need h
  exact ⟨v, a, b, rfl, ok, h⟩
theorem z_is_bit (ds : List Dt) (r : Rs) (h : Z_is_bit K ds r) : R_is_bit ds r := by
  obtain ⟨⟨v, _⟩, rfl, h⟩ := h
  obtain ⟨ok, h⟩ := got_need h
  exact ⟨v, rfl, ok, h⟩
theorem z_check_version (ds : List Dt) (r : Rs) (h : Z_check_version K ds r) : R_check_version K ds r := by
  obtain ⟨⟨p, v, _⟩, rfl, h⟩ := h
  obtain ⟨⟨ok, hv⟩, h⟩ := got_need h
  refine ⟨p.1, p.2, v, rfl, ok, hv, ?_⟩
  split at h
  · rename_i hv
    rw [if_pos hv]
    exact h
  · rename_i hv
    rw [if_neg hv]
    exact h
end
end CC
set_option maxHeartbeats 1000000
namespace CC
open PySem PySem.Spec PyProof.Rows L2 Qw Mw RZ
open Evl hiding ea_cons
open Pw (Dt Rp RpL Wk R2d R1d RLd RLn Kq KqL spX2 Xm Xm0 cr_int cr_min2 cr_max2 cr_list cr_tuple rTupS cr_len pe_globI pe_globS pe_globR pe_tyname)
section
variable {P : Program} {w : World} {K : PySem.W.Frag} {mg : Str → Option Value} {base : Heap}
open Mw
abbrev eTester (K : PySem.W.Frag) : (CV × Dt × (List (List Int)) × (List Int)) → Dt := fun p_ => .obj (He.ga K "Tester") ["circuit", "version", "chains", "held"] [(eCircuit K) p_.1, eD p_.2.1, (eL (eT eI)) p_.2.2.1, (eT eI) p_.2.2.2]
abbrev oTester (K : PySem.W.Frag) : (CV × Dt × (List (List Int)) × (List Int)) → Ow := fun p_ => .ins (He.ga K "Tester") ["circuit", "version", "chains", "held"] [(eCircuit K) p_.1, eD p_.2.1, (eL (eT eI)) p_.2.2.1, (eT eI) p_.2.2.2]
def b_are_bits (value_0 : Dt) (count_0 : Int) : R (Ctl Unit Unit Bool) := (R.bind (R.bind (R.bind (R.need (Pw.tyD value_0).isSome (R.ok (Pw.isTp value_0))) fun t_1 => R.ok (!t_1)) fun t_3 => if t_3 = true then R.ok true else (R.bind (lenDR value_0) fun t_2 => (R.ok (!(decide (t_2 = count_0)))))) fun c_4 => if c_4 = true then (R.bind (R.ok false) fun t_5 => R.ok (Ctl.rt t_5)) else (R.bind (R.ofO ((asT some) value_0)) fun value_6 => (R.bind (R.bind (R.bind (R.ok value_6) fun l_9 => (R.lcR l_9 (fun item_7 => (R.ok true)) (fun item_7 => (R.bind (R.ok (item_7, ())) fun t_8 => (m_is_bit t_8.1).nox))).nox) fun t_10 => R.ok (t_10.all id)) fun t_11 => R.ok (Ctl.rt t_11))))
def m_are_bits (value_0 : Dt) (count_0 : Int) : R Bool := (b_are_bits value_0 count_0).fin
abbrev R_are_bits (K : PySem.W.Frag) : List Dt → Rs → Prop := RF K (fun (a_ : Dt × Int × Unit) => [eD a_.1, eI a_.2.1]) (fun a_ => m_are_bits a_.1 a_.2.1) (fun (b_ : Bool) => .d (eB b_))
theorem l_are_bits (K : PySem.W.Frag) (ds : List Dt) (r : Rs) (h : R_are_bits K ds r) : ds.length = 2 := by
  obtain ⟨_, rfl, _⟩ := h
  rfl
abbrev N_are_bits : List Str := ["value", "count", "item"]
theorem sc_are_bits : FnScope N_are_bits ["value", "count"] (defScope s_are_bits) := ⟨rfl, rfl, rfl, by decide +kernel, rfl, by decide +kernel, by decide +kernel⟩
theorem k_are_bits (T : Txt K mg) (D : Dx K mg "are_bits" ["value", "count"] s_are_bits)  (G_is_bit : Fx P w K mg base 2 "is_bit" ["value"] (spR P w K (Z_is_bit K))) : Fx P w K mg base 3 "are_bits" ["value", "count"] (spR P w K (R_are_bits K)) := by
  refine Fx.of D sc_are_bits (l_are_bits K) fun f cdv A outer s H E hr => ?_
  refine ⟨_, (pss_cons (ps_if (PW.pt (pw_or (pt_not (pt_val (pe_callB call_isi (by rfl) T.f_isinstance (by decide +kernel) (pa_cons (pv 0) (pa_cons (pe_tyname (n := "tuple") T.f_tuple) pa_nil))))) (pw_or1 (pt_cmpR op_ne (pe_callB cr_len (by rfl) T.f_len PySem.boot_len (pa_cons (pv 0) pa_nil)) (pv 1) (nomark _))))) (pss_one (ps_ret pe_bl)) pss_nil)
      (pss_one (ps_ret (pe_callB (cr_all rfl) (by rfl) T.f_all (by decide +kernel) (pa_cons (pe_lc (own := [("item", 2)]) (g := gName 2) (tt := tYes) rfl sc_are_bits.nd (pi_tup (pv 0)) (blkOk_by (N := N_are_bits) (sc := defScope s_are_bits) (by decide +kernel)) (fun _ _ _ _ _ => (pgn (i := 2) sc_are_bits.nd)) (fun _ _ _ _ _ => pts_nil) (fun _ _ _ _ _ => (pe_fx G_is_bit (hr.mono (by decide)) (pa_cons (pv 2) pa_nil)))) pa_nil))))), ?_⟩
  rintro ds r ⟨⟨value_0, count_0, _⟩, rfl, hr⟩
  exact does_d (eX := [.x, .x, .x]) (d := eB) (eL := fun (_ : Unit) => []) (eN := fun (_ : Unit) => []) (show Sx P w K _ _ _ _ _ [.d (eD value_0), .d (eI count_0), .u] (b_are_bits value_0 count_0) _ from (sx_if (xt_or (xt_not (xt_B (xp_isTup ep_var))) (xt_test (xp_opMV (xp_lenD ep_var) ep_var (fun _ => (rm_v Pw.r2_neI))))) (sx_ret (xp_v ep_bl) (fun _ => rfl)) (sx_skip (sx_last (sx_cast (i := 0) (as_tup as_any) rfl (fun value_6 => (show Sx P w K _ _ _ _ _ [.d ((eT eD) value_6), .d (eI count_0), .u] (R.bind (R.bind (R.bind (R.ok value_6) fun l_9 => (R.lcR l_9 (fun item_7 => (R.ok true)) (fun item_7 => (R.bind (R.ok (item_7, ())) fun t_8 => (m_is_bit t_8.1).nox))).nox) fun t_10 => R.ok (t_10.all id)) fun t_11 => R.ok (Ctl.rt t_11)) _ from (sx_ret (xp_b1 (xp_o (u := (oL eB)) (xo_lc (xi_tup (xp_v ep_var)) (fun item_7 => ⟨_, gc_name, (xt_v tp_yes), (xp_call (xa_v (ds := (fun (a_ : Dt × Unit) => [eD a_.1])) (v := (item_7, ())) (ap_cons ep_var ap_nil)) (fun _ => rfl))⟩)) (fun _ => rfl)) (fun _ => rl_allm)) (fun _ => rfl))))))))) hr
def b_check_pattern (circuit_0 : CV) (pattern_0 : Dt) : R (Ctl Unit Unit Unit) := (R.bind (R.bind (R.bind (R.bind (R.ok pattern_0) fun t_5 => R.bind (R.bind (R.bind (R.bind (R.ok ()) fun t_1 => ((m_Circuit_sources circuit_0 )).nox) fun t_2 => R.ok (t_2.length : Int)) fun t_3 => R.bind (R.ok ()) fun t_4 => R.ok (t_3, t_4)) fun t_6 => R.ok (t_5, t_6)) fun t_7 => (m_are_bits t_7.1 t_7.2.1).nox) fun t_8 => R.ok (!t_8)) fun c_9 => if c_9 = true then (R.ex ⟨"BadPattern", [], []⟩) else (R.ok (Ctl.nx ())))
def m_check_pattern (circuit_0 : CV) (pattern_0 : Dt) : R Unit := (b_check_pattern circuit_0 pattern_0).finU
abbrev R_check_pattern (K : PySem.W.Frag) : List Dt → Rs → Prop := RF K (fun (a_ : CV × Dt × Unit) => [(eCircuit K) a_.1, eD a_.2.1]) (fun a_ => m_check_pattern a_.1 a_.2.1) (fun (b_ : Unit) => .d (eU b_))
theorem l_check_pattern (K : PySem.W.Frag) (ds : List Dt) (r : Rs) (h : R_check_pattern K ds r) : ds.length = 2 := by
  obtain ⟨_, rfl, _⟩ := h
  rfl
abbrev N_check_pattern : List Str := ["circuit", "pattern"]
theorem sc_check_pattern : FnScope N_check_pattern ["circuit", "pattern"] (defScope s_check_pattern) := ⟨rfl, rfl, rfl, by decide +kernel, rfl, by decide +kernel, by decide +kernel⟩
theorem k_check_pattern (T : Txt K mg) (D : Dx K mg "check_pattern" ["circuit", "pattern"] s_check_pattern)  (G_are_bits : Fx P w K mg base 3 "are_bits" ["value", "count"] (spR P w K (R_are_bits K))) (M_Circuit_sources : Mx P w K mg base 1 (He.ga K "Circuit") "sources" ["self"] (spR P w K (Z_Circuit_sources K))) (X_BadPattern : Xm1 K mg "BadPattern" (He.ga K "BadPattern")) : Fx P w K mg base 4 "check_pattern" ["circuit", "pattern"] (spR P w K (R_check_pattern K)) := by
  refine Fx.ofX D sc_check_pattern (l_check_pattern K) fun f cdv A outer s H E hr tk => ?_
  refine ⟨_, (pss_one (ps_if (pt_not (pt_val (pe_fx G_are_bits (hr.mono (by decide)) (pa_cons (pv 1) (pa_cons (pe_callB cr_len (by rfl) T.f_len PySem.boot_len (pa_cons (pe_mx0 M_Circuit_sources T.k_Circuit (hr.mono (by decide)) (pv 0)) pa_nil)) pa_nil))))) (pss_one (ps_raise rfl tk (pm_1 X_BadPattern))) pss_nil)), ?_⟩
  rintro ds r ⟨⟨circuit_0, pattern_0, _⟩, rfl, hr⟩
  exact does_u (eX := [.x, .x]) (eL := fun (_ : Unit) => []) (eN := fun (_ : Unit) => [.x, .x]) (show Sx P w K _ _ _ _ _ [.d ((eCircuit K) circuit_0), .d (eD pattern_0)] (b_check_pattern circuit_0 pattern_0) _ from (sx_last (sx_if (xt_not (xt_B (xp_call (xa_consM (da := eD) (xp_v ep_var) (xa_consM (da := eI) (xp_b1 (xp_o (u := (oL eS)) (xo_meth (v := circuit_0) ep_var (xa_v (ds := (fun (a_ : Unit) => [])) (v := ()) ap_nil) (fun _ => rfl) (fun _ => rfl)) (fun _ => rfl)) (fun _ => rl_lenLm)) xa_nil)) (fun _ => rfl)))) (sx_raise0 (Le.x (Le.x Le.nil))) (sx_skip (sx_end (eN := fun _ => [.x, .x]) (Le.x (Le.x Le.nil))))))) hr
def b_gate_value (kind_0 : Str) (bits_0 : (List Int)) : R (Ctl Unit Unit Int) := (R.bindC (R.bind (R.ok (decide (kind_0 ∈ ([("and" : Str), ("nand" : Str)] : (List Str))))) fun c_1 => if c_1 = true then (R.bind (R.ok (if (decide ((0 : Int) ∈ bits_0)) = true then (0 : Int) else (1 : Int))) fun value_2 => (R.ok (Ctl.nx value_2))) else (R.bindC (R.bind (R.ok (decide (kind_0 ∈ ([("or" : Str), ("nor" : Str)] : (List Str))))) fun c_3 => if c_3 = true then (R.bind (R.ok (if (decide ((1 : Int) ∈ bits_0)) = true then (1 : Int) else (0 : Int))) fun value_4 => (R.ok (Ctl.nx value_4))) else (R.bind (R.ok (Builtin.bitAnd (bits_0.sum) (1 : Int))) fun value_5 => (R.ok (Ctl.nx value_5)))) fun (j_6 : Int) => (R.ok (Ctl.nx j_6)))) fun (j_7 : Int) => (R.bind (R.ok (if (decide (kind_0 ∈ (G_CONTRARY : List Str))) = true then ((1 : Int) - j_7) else j_7)) fun t_8 => R.ok (Ctl.rt t_8)))
def m_gate_value (kind_0 : Str) (bits_0 : (List Int)) : R Int := (b_gate_value kind_0 bits_0).fin
abbrev R_gate_value (K : PySem.W.Frag) : List Dt → Rs → Prop := RF K (fun (a_ : Str × (List Int) × Unit) => [eS a_.1, (eL eI) a_.2.1]) (fun a_ => m_gate_value a_.1 a_.2.1) (fun (b_ : Int) => .d (eI b_))
theorem l_gate_value (K : PySem.W.Frag) (ds : List Dt) (r : Rs) (h : R_gate_value K ds r) : ds.length = 2 := by
  obtain ⟨_, rfl, _⟩ := h
  rfl
abbrev N_gate_value : List Str := ["kind", "bits", "value"]
theorem sc_gate_value : FnScope N_gate_value ["kind", "bits"] (defScope s_gate_value) := ⟨rfl, rfl, rfl, by decide +kernel, rfl, by decide +kernel, by decide +kernel⟩
theorem k_gate_value (T : Txt K mg) (D : Dx K mg "gate_value" ["kind", "bits"] s_gate_value)  : Fx P w K mg base 1 "gate_value" ["kind", "bits"] (spR P w K (R_gate_value K)) := by
  refine Fx.of D sc_gate_value (l_gate_value K) fun f cdv A outer s H E hr => ?_
  refine ⟨_, (pss_cons (ps_if (pt_cmpR op_in_seq (pv 0) (pe_tup (pa_cons pe_str (pa_cons pe_str pa_nil))) rfl) (pss_one (pset (i := 2) sc_gate_value.nd (pe_ifExp (pt_cmpR op_in_seq pe_int (pv 1) rfl) pe_int pe_int))) (pss_one (ps_if (pt_cmpR op_in_seq (pv 0) (pe_tup (pa_cons pe_str (pa_cons pe_str pa_nil))) rfl) (pss_one (pset (i := 2) sc_gate_value.nd (pe_ifExp (pt_cmpR op_in_seq pe_int (pv 1) rfl) pe_int pe_int))) (pss_one (pset (i := 2) sc_gate_value.nd (pe_op op_and (pe_callB (cr_sum rfl) (by rfl) T.f_sum (by decide +kernel) (pa_cons (pv 1) pa_nil)) pe_int))))))
      (pss_one (ps_ret (pe_ifExp (pt_cmpR op_in_seq (pv 0) (pe_globR T.g_CONTRARY) rfl) (pe_op op_sub pe_int (pv 2)) (pv 2))))), ?_⟩
  rintro ds r ⟨⟨kind_0, bits_0, _⟩, rfl, hr⟩
  exact does_d (eX := [.x, .x, .x]) (d := eI) (eL := fun (_ : Unit) => []) (eN := fun (_ : Unit) => []) (show Sx P w K _ _ _ _ _ [.d (eS kind_0), .d ((eL eI) bits_0), .u] (b_gate_value kind_0 bits_0) _ from (sx_ifj (eM := (fun (j_7 : Int) => [.d (eS kind_0), .d ((eL eI) bits_0), .d (eI j_7)])) (fun b => (outD_ok b).1) (xt_v (tp_test (ep_op ep_var (ep_is (e := (eT eS) ([("and" : Str), ("nand" : Str)] : (List Str))) (ep_tup (ap_cons ep_str (ap_cons ep_str ap_nil)) (Nat.le_of_ble_eq_true rfl)) rfl) r2_inST))) (sx_last (sx_asg (xp_v (ep_ifV (tp_test (ep_op ep_int ep_var r2_inIL)) ep_int ep_int)) (fun value_2 => (show Sx P w K _ _ _ _ _ [.d (eS kind_0), .d ((eL eI) bits_0), .d (eI value_2)] _ _ from (sx_end (Le.s (Le.s (Le.s Le.nil)))))))) (sx_last (sx_ifj (eM := (fun (j_6 : Int) => [.d (eS kind_0), .d ((eL eI) bits_0), .d (eI j_6)])) (fun b => (outD_ok b).1) (xt_v (tp_test (ep_op ep_var (ep_is (e := (eT eS) ([("or" : Str), ("nor" : Str)] : (List Str))) (ep_tup (ap_cons ep_str (ap_cons ep_str ap_nil)) (Nat.le_of_ble_eq_true rfl)) rfl) r2_inST))) (sx_last (sx_asg (xp_v (ep_ifV (tp_test (ep_op ep_int ep_var r2_inIL)) ep_int ep_int)) (fun value_4 => (show Sx P w K _ _ _ _ _ [.d (eS kind_0), .d ((eL eI) bits_0), .d (eI value_4)] _ _ from (sx_end (Le.s (Le.s (Le.s Le.nil)))))))) (sx_last (sx_asg (xp_v (ep_op (ep_cb (ap_cons ep_var ap_nil) rl_sumI) ep_int Pw.r2_I0)) (fun value_5 => (show Sx P w K _ _ _ _ _ [.d (eS kind_0), .d ((eL eI) bits_0), .d (eI value_5)] _ _ from (sx_end (Le.s (Le.s (Le.s Le.nil)))))))) (fun j_6 => (sx_end (Le.s (Le.s (Le.s Le.nil))))))) (fun j_7 => (sx_last (sx_ret (xp_v (ep_ifV (tp_test (ep_op ep_var (ep_globT (rp_wr T.t_CONTRARY (fun _ => rpl_strs _))) r2_inST)) (ep_op ep_int ep_var Pw.r2_I0) ep_var)) (fun _ => rfl)))))) hr
def b_forced (mv_ : CV → Dt → (List Int) → R (List (Str × Int))) (circuit_0 : CV) (version_0 : Dt) (pattern_0 : (List Int)) : R (Ctl Unit Unit (List (Str × Int))) := (R.bind (R.bind (R.ok (isNonD version_0)) fun t_4 => if t_4 = true then R.ok true else (R.bind (R.bind (R.bind (R.ofO ((asT some) version_0)) fun t_1 => (ixR t_1 (0 : Int))) fun t_2 => R.ofO (asS t_2)) fun t_3 => (R.ok (decide (t_3 = ("pin" : Str)))))) fun c_5 => if c_5 = true then (R.bind (R.ok ([] : (List (Str × Int)))) fun t_6 => R.ok (Ctl.rt t_6)) else (R.bind (R.bind (R.bind (R.bind (R.ofO ((asT some) version_0)) fun t_7 => (ixR t_7 (0 : Int))) fun t_8 => R.ofO (asS t_8)) fun t_9 => (R.ok (decide (t_9 = ("stem" : Str))))) fun c_10 => if c_10 = true then (R.bind (R.bind (R.nox (R.bind (R.bind (R.ofO ((asT some) version_0)) fun t_11 => (ixR t_11 (1 : Int))) fun t_12 => R.ofO (asS t_12))) fun t_15 => R.bind (R.nox (R.bind (R.bind (R.ofO ((asT some) version_0)) fun t_13 => (ixR t_13 (2 : Int))) fun t_14 => R.ofO (asI t_14))) fun t_16 => R.ok [(t_15, t_16)]) fun t_17 => R.ok (Ctl.rt t_17)) else (R.bind (R.bind (R.ok (circuit_0, ((eU ()), (pattern_0, ())))) fun t_18 => (mv_ t_18.1 t_18.2.1 t_18.2.2.1).nox) fun right_19 => (R.bind (R.ofO ((asP4 some some some some) version_0)) fun p_20 => (R.bind (R.bind (R.bind (R.ofO (asS p_20.2.2.2)) fun t_40 => R.bind (R.bind (R.bind (R.bind (R.bind (R.ok right_19) fun t_29 => R.bind (R.ofO (asS p_20.2.1)) fun t_30 => getR t_29 t_30) fun t_35 => R.bind (R.bind (R.bind (R.ok right_19) fun t_31 => R.bind (R.ofO (asS p_20.2.2.1)) fun t_32 => getR t_31 t_32) fun t_33 => R.bind (R.ok ()) fun t_34 => R.ok (t_33, t_34)) fun t_36 => R.ok (t_35, t_36)) fun t_37 => R.ok ([t_37.1, t_37.2.1] : (List Int))) fun t_38 => R.bind (R.ok ()) fun t_39 => R.ok (t_38, t_39)) fun t_41 => R.ok (t_40, t_41)) fun t_42 => (m_gate_value t_42.1 t_42.2.1).nox) fun value_43 => (R.bind (R.bind (R.nox (R.ofO (asS p_20.2.1))) fun t_44 => R.bind (R.nox (R.ok value_43)) fun t_45 => R.bind (R.nox (R.ofO (asS p_20.2.2.1))) fun t_46 => R.bind (R.nox (R.ok value_43)) fun t_47 => R.ok (putV [(t_44, t_45)] t_46 t_47)) fun t_48 => R.ok (Ctl.rt t_48)))))))
def b_u_values (mf_ : CV → Dt → (List Int) → R (List (Str × Int))) (circuit_0 : CV) (version_0 : Dt) (pattern_0 : (List Int)) : R (Ctl Unit Unit (List (Str × Int))) := (R.bind (R.bind (R.ok (circuit_0, (version_0, (pattern_0, ())))) fun t_1 => (mf_ t_1.1 t_1.2.1 t_1.2.2.1).nox) fun forced_2 => (R.bind (R.ok ([] : (List (Str × Int)))) fun found_3 => (R.bind (R.bind (R.bind (R.ok ()) fun t_4 => ((m_Circuit_sources circuit_0 )).nox) fun t_5 => R.bind (R.ok pattern_0) fun t_6 => R.ok (List.zip t_5 t_6)) fun l_46 => R.bindC (R.forR l_46 found_3 (fun (v_7 : (List (Str × Int))) (line_8 : (Str × Int)) => (R.bind (R.bind (R.ok forced_2) fun t_9 => R.bind (R.ok line_8.1) fun t_10 => R.bind (R.ok line_8.2) fun t_11 => R.ok ((getV t_9 t_10).getD t_11)) fun t_12 => R.bind (R.ok line_8.1) fun t_13 => R.need ((v_7).length < 100000) (R.bind (R.ok (putV v_7 t_13 t_12)) fun found_14 => (R.ok (Ctl.nx found_14)))))) (fun (w_15 : (List (Str × Int))) => (R.bind (R.ok circuit_0.2) fun l_45 => R.bindC (R.forR l_45 w_15 (fun (v_16 : (List (Str × Int))) (line_17 : Gt) => (R.bind (R.bind (R.ok line_17.ps) fun l_21 => (R.lcR l_21 (fun pin_18 => (R.ok true)) (fun pin_18 => (R.bind (R.ok v_16) fun t_19 => R.bind (R.ok pin_18) fun t_20 => getR t_19 t_20))).nox) fun bits_22 => (R.bindC (R.bind (R.bind (R.ok (!isNonD version_0)) fun t_27 => if t_27 = true then (R.bind (R.bind (R.bind (R.bind (R.ofO ((asT some) version_0)) fun t_23 => R.ok (cutR t_23 none (some (2 : Int)))) fun t_24 => R.ok ((eT eD) t_24)) fun t_25 => R.ofO ((asT asS) t_25)) fun t_26 => (eqSR (fun xs => xs.all okStr) t_26 ([("pin" : Str), line_17.l] : (List Str)))) else R.ok false) fun c_28 => if c_28 = true then (R.bind (R.bind (R.bind (R.ofO ((asT some) version_0)) fun t_29 => (ixR t_29 (3 : Int))) fun t_30 => R.ofO (asI t_30)) fun t_33 => R.bind (R.bind (R.bind (R.ofO ((asT some) version_0)) fun t_31 => (ixR t_31 (2 : Int))) fun t_32 => R.ofO (asI t_32)) fun t_34 => R.bind (setR bits_22 t_34 t_33) fun bits_35 => (R.ok (Ctl.nx bits_35))) else (R.ok (Ctl.nx bits_22))) fun (j_36 : (List Int)) => (R.bind (R.bind (R.ok forced_2) fun t_38 => R.bind (R.ok line_17.l) fun t_39 => R.bind (R.bind (R.ok (line_17.k, (j_36, ()))) fun t_37 => (m_gate_value t_37.1 t_37.2.1).nox) fun t_40 => R.ok ((getV t_38 t_39).getD t_40)) fun t_41 => R.bind (R.ok line_17.l) fun t_42 => R.need ((v_16).length < 100000) (R.bind (R.ok (putV v_16 t_42 t_41)) fun found_43 => (R.ok (Ctl.nx found_43)))))))) (fun (w_44 : (List (Str × Int))) => (R.ok (Ctl.rt w_44))))))))
def m_u_values : Nat → CV → Dt → (List Int) → R (List (Str × Int))
  | 0 => fun _ _ _ => .no
  | n_ + 1 => fun circuit_0 version_0 pattern_0 => (b_u_values (fun circuit_0 version_0 pattern_0 => (b_forced (m_u_values n_) circuit_0 version_0 pattern_0).fin) circuit_0 version_0 pattern_0).fin
def m_forced (n_ : Nat) : CV → Dt → (List Int) → R (List (Str × Int)) := fun circuit_0 version_0 pattern_0 => (b_forced (m_u_values n_) circuit_0 version_0 pattern_0).fin
abbrev R_forced (n_ : Nat) (K : PySem.W.Frag) : List Dt → Rs → Prop := RF K (fun (a_ : CV × Dt × (List Int) × Unit) => [(eCircuit K) a_.1, eD a_.2.1, (eT eI) a_.2.2.1]) (fun a_ => m_forced n_ a_.1 a_.2.1 a_.2.2.1) (fun (b_ : (List (Str × Int))) => .o ((oK eI) b_))
theorem l_forced (n_ : Nat) (K : PySem.W.Frag) (ds : List Dt) (r : Rs) (h : R_forced n_ K ds r) : ds.length = 3 := by
  obtain ⟨_, rfl, _⟩ := h
  rfl
abbrev R_u_values (n_ : Nat) (K : PySem.W.Frag) : List Dt → Rs → Prop := RF K (fun (a_ : CV × Dt × (List Int) × Unit) => [(eCircuit K) a_.1, eD a_.2.1, (eT eI) a_.2.2.1]) (fun a_ => m_u_values n_ a_.1 a_.2.1 a_.2.2.1) (fun (b_ : (List (Str × Int))) => .o ((oK eI) b_))
theorem l_u_values (n_ : Nat) (K : PySem.W.Frag) (ds : List Dt) (r : Rs) (h : R_u_values n_ K ds r) : ds.length = 3 := by
  obtain ⟨_, rfl, _⟩ := h
  rfl
abbrev N_forced : List Str := ["circuit", "version", "pattern", "right", "_", "one", "other", "kind", "value"]
theorem sc_forced : FnScope N_forced ["circuit", "version", "pattern"] (defScope s_forced) := ⟨rfl, rfl, rfl, by decide +kernel, rfl, by decide +kernel, by decide +kernel⟩
theorem k_forced (n_ : Nat) (T : Txt K mg) (D : Dx K mg "_forced" ["circuit", "version", "pattern"] s_forced)  (G__values : Fx P w K mg base (2 * n_ + 5) "_values" ["circuit", "version", "pattern"] (spR P w K (R_u_values n_ K))) (G_gate_value : Fx P w K mg base 1 "gate_value" ["kind", "bits"] (spR P w K (R_gate_value K))) : Fx P w K mg base (2 * n_ + 6) "_forced" ["circuit", "version", "pattern"] (spR P w K (R_forced (n_) K)) := by
  refine Fx.of D sc_forced (l_forced (n_) K) fun f cdv A outer s H E hr => ?_
  have hu : (A.deeper (envOfC "_forced" (defScope s_forced) s.heap.objs.size f cdv)).units + 64 < cLine := hr.units
  have hu1 : (A.deeper (envOfC "_forced" (defScope s_forced) s.heap.objs.size f cdv)).units + 1 < cLine := Nat.lt_of_le_of_lt (Nat.add_le_add_left (by decide) _) hu
  refine ⟨_, (pss_cons (ps_if (PW.pt (pw_or (pt_cmpR op_isN1 (pv 1) pe_non (nomark _)) (pw_or1 (pt_cmpR op_eq (pe_ix ix_tup (pv 1) pe_int (fun _ _ => rfl)) pe_str (nomark _))))) (pss_one (ps_ret pe_dnewK)) pss_nil)
      (pss_cons (ps_if (pt_cmpR op_eq (pe_ix ix_tup (pv 1) pe_int (fun _ _ => rfl)) pe_str (nomark _)) (pss_one (ps_ret (pe_disp (pps_cons (pe_ix ix_tup (pv 1) pe_int (fun _ _ => rfl)) (pe_ix ix_tup (pv 1) pe_int (fun _ _ => rfl)) pps_nil) (by rfl) (by rfl) (fun z => by cases z) (by decide)))) pss_nil)
      (pss_cons (pset (i := 3) sc_forced.nd (pe_fx G__values (hr.mono (by omega)) (pa_cons (pv 0) (pa_cons pe_non (pa_cons (pv 2) pa_nil)))))
      (pss_cons (ps_asg (pv 1) (pg_tup rfl (pgs_cons (pgn (i := 4) sc_forced.nd) (pgs_cons (pgn (i := 5) sc_forced.nd) (pgs_cons (pgn (i := 6) sc_forced.nd) (pgs_cons (pgn (i := 7) sc_forced.nd) pgs_nil))))))
      (pss_cons (pset (i := 8) sc_forced.nd (pe_fx G_gate_value (hr.mono (by omega)) (pa_cons (pv 7) (pa_cons (pe_lst (pa_cons (pe_dget hu1 (pv 3) (pv 5) (fun _ _ => rfl)) (pa_cons (pe_dget hu1 (pv 3) (pv 6) (fun _ _ => rfl)) pa_nil))) pa_nil))))
      (pss_one (ps_ret (pe_disp (pps_cons (pv 5) (pv 8) (pps_cons (pv 6) (pv 8) pps_nil)) (by rfl) (by rfl) (fun z => by cases z) (by decide))))))))), ?_⟩
  rintro ds r ⟨⟨circuit_0, version_0, pattern_0, _⟩, rfl, hr⟩
  exact does_o (eX := [.x, .x, .x, .x, .x, .x, .x, .x, .x]) (u := (oK eI)) (eL := fun (_ : Unit) => []) (eN := fun (_ : Unit) => []) (show Sx P w K _ _ _ _ _ [.d ((eCircuit K) circuit_0), .d (eD version_0), .d ((eT eI) pattern_0), .u, .u, .u, .u, .u, .u] (b_forced (m_u_values n_) circuit_0 version_0 pattern_0) _ from (sx_if (xt_or (xt_v (tp_test (ep_isND ep_var))) (xt_test (xp_opMV (xp_castM as_str (xp_opMV (xp_cast (as_tup as_any) ep_var) ep_int (fun _ => rm_ixT))) ep_str (fun _ => (rm_v Pw.r2_eqS))))) (sx_reto xo_dnew (fun _ => rfl)) (sx_skip (sx_if (xt_test (xp_opMV (xp_castM as_str (xp_opMV (xp_cast (as_tup as_any) ep_var) ep_int (fun _ => rm_ixT))) ep_str (fun _ => (rm_v Pw.r2_eqS)))) (sx_reto (xo_disp1 (xp_castM as_str (xp_opMV (xp_cast (as_tup as_any) ep_var) ep_int (fun _ => rm_ixT))) (xp_castM as_int (xp_opMV (xp_cast (as_tup as_any) ep_var) ep_int (fun _ => rm_ixT)))) (fun _ => rfl)) (sx_skip (sx_asg (xp_o (xo_call (xa_v (ds := (fun (a_ : CV × Dt × (List Int) × Unit) => [(eCircuit K) a_.1, eD a_.2.1, (eT eI) a_.2.2.1])) (v := (circuit_0, ((eU ()), (pattern_0, ())))) (ap_cons ep_var (ap_cons ep_non (ap_cons ep_var ap_nil)))) (fun _ => rfl)) (fun _ => rfl)) (fun right_19 => (show Sx P w K _ _ _ _ _ [.d ((eCircuit K) circuit_0), .d (eD version_0), .d ((eT eI) pattern_0), .d ((eK eI) right_19), .u, .u, .u, .u, .u] _ _ from (sx_asgG (xp_cast (as_p4 as_any as_any as_any as_any) ep_var) (fun _ => ge_tup (gs_cons ge_name (gs_cons ge_name (gs_cons ge_name (gs_cons ge_name gs_nil))))) (fun p_20 => (show Sx P w K _ _ _ _ _ [.d ((eCircuit K) circuit_0), .d (eD version_0), .d ((eT eI) pattern_0), .d ((eK eI) right_19), .d (eD p_20.1), .d (eD p_20.2.1), .d (eD p_20.2.2.1), .d (eD p_20.2.2.2), .u] _ _ from (sx_asg (xp_call (xa_consM (da := eS) (xp_cast as_str ep_var) (xa_consM (da := (eL eI)) (xp_o (u := (oL eI)) (xo_lst (xa_consM (da := eI) (xp_dget (xk_d (xp_v ep_var)) (xp_cast as_str ep_var)) (xa_consM (da := eI) (xp_dget (xk_d (xp_v ep_var)) (xp_cast as_str ep_var)) xa_nil)) (fun _ => rfl)) (fun _ => rfl)) xa_nil)) (fun _ => rfl)) (fun value_43 => (show Sx P w K _ _ _ _ _ [.d ((eCircuit K) circuit_0), .d (eD version_0), .d ((eT eI) pattern_0), .d ((eK eI) right_19), .d (eD p_20.1), .d (eD p_20.2.1), .d (eD p_20.2.2.1), .d (eD p_20.2.2.2), .d (eI value_43)] _ _ from (sx_last (sx_reto (xo_disp2 (xp_cast as_str ep_var) (xp_v ep_var) (xp_cast as_str ep_var) (xp_v ep_var)) (fun _ => rfl))))))))))))))))) hr
abbrev N_u_values : List Str := ["circuit", "version", "pattern", "forced", "found", "line", "bit", "kind", "pins", "bits", "pin"]
theorem sc_u_values : FnScope N_u_values ["circuit", "version", "pattern"] (defScope s_u_values) := ⟨rfl, rfl, rfl, by decide +kernel, rfl, by decide +kernel, by decide +kernel⟩
theorem r0_u_values (D : Dx K mg "_values" ["circuit", "version", "pattern"] s_u_values) : Fx P w K mg base 5 "_values" ["circuit", "version", "pattern"] (spR P w K (R_u_values 0 K)) := by
  obtain ⟨f, fd, h1, F, h3⟩ := D
  exact ⟨f, fd, h1, F.kp, h3, ⟨fun vs H Q E ⟨_, _, _, _, _, ⟨_, _, z⟩, _⟩ => False.elim z, fun A outer s H args us vs Q E _ _ _ _ ⟨_, _, _, _, _, ⟨_, _, z⟩, _⟩ => False.elim z⟩⟩
theorem k_u_values (n_ : Nat) (T : Txt K mg) (D : Dx K mg "_values" ["circuit", "version", "pattern"] s_u_values)  (G__forced : Fx P w K mg base (2 * n_ + 6) "_forced" ["circuit", "version", "pattern"] (spR P w K (R_forced n_ K))) (M_Circuit_sources : Mx P w K mg base 1 (He.ga K "Circuit") "sources" ["self"] (spR P w K (Z_Circuit_sources K))) (G_gate_value : Fx P w K mg base 1 "gate_value" ["kind", "bits"] (spR P w K (R_gate_value K))) : Fx P w K mg base (2 * n_ + 7) "_values" ["circuit", "version", "pattern"] (spR P w K (R_u_values (n_ + 1) K)) := by
  refine Fx.of D sc_u_values (l_u_values (n_ + 1) K) fun f cdv A outer s H E hr => ?_
  have hu : (A.deeper (envOfC "_values" (defScope s_u_values) s.heap.objs.size f cdv)).units + 64 < cLine := hr.units
  have hu1 : (A.deeper (envOfC "_values" (defScope s_u_values) s.heap.objs.size f cdv)).units + 1 < cLine := Nat.lt_of_le_of_lt (Nat.add_le_add_left (by decide) _) hu
  refine ⟨_, (pss_cons (pset (i := 3) sc_u_values.nd (pe_fx G__forced (hr.mono (by omega)) (pa_cons (pv 0) (pa_cons (pv 1) (pa_cons (pv 2) pa_nil)))))
      (pss_cons (pset (i := 4) sc_u_values.nd pe_dnewK)
      (pss_cons (ps_for PassesOwn.never rfl (Zc.pi_zipM (by rfl) T.f_zip (pa_cons (pe_mx0 M_Circuit_sources T.k_Circuit (hr.mono (by omega)) (pv 0)) (pa_cons (pv 2) pa_nil))) (pg_tup rfl (pgs_cons (pgn (i := 5) sc_u_values.nd) (pgs_cons (pgn (i := 6) sc_u_values.nd) pgs_nil)))
      (pss_one (ps_dput hu1 (pv 4) (pv 5) (pe_dget2 hu1 (pv 3) (pv 5) (pv 6) ⟨rfl, rfl, rfl, rfl⟩) rfl)))
      (pss_cons (ps_for PassesOwn.never rfl (pi_list (pe_fld (pv 0) rfl)) (pg_tup rfl (pgs_cons (pgn (i := 5) sc_u_values.nd) (pgs_cons (pgn (i := 7) sc_u_values.nd) (pgs_cons (pgn (i := 8) sc_u_values.nd) pgs_nil))))
      (pss_cons (ps_setLc (i := 9) (own := [("pin", 10)]) (g := gName 10) (tt := tYes) rfl sc_u_values.nd rfl rfl (sw_true rfl rfl rfl (by decide +kernel)) (pi_tup (pv 8)) (blkOk_by (N := N_u_values) (sc := defScope s_u_values) (by decide +kernel)) (fun _ _ _ _ _ => (pgn (i := 10) sc_u_values.nd)) (fun _ _ _ _ _ => pts_nil) (fun _ _ _ _ _ => (pe_dget hu1 (pv 4) (pv 10) (fun _ _ => rfl))))
      (pss_cons (ps_if (PW.pt (pw_and (pt_cmpR op_notN1 (pv 1) pe_non (nomark _)) (pw_and1 (pt_cmpR (op_eqD hu) (pe_slice sl_tupA (pv 1) po_none (po_some pe_int)) (pe_tup (pa_cons pe_str (pa_cons (pv 5) pa_nil))) (nomark _))))) (pss_one (ps_asg (pe_ix ix_tup (pv 1) pe_int (fun _ _ => rfl)) (pg_sub (pv 9) (pe_ix ix_tup (pv 1) pe_int (fun _ _ => rfl)) set_list))) pss_nil)
      (pss_one (ps_dput hu1 (pv 4) (pv 5) (pe_dget2 hu1 (pv 3) (pv 5) (pe_fx G_gate_value (hr.mono (by omega)) (pa_cons (pv 7) (pa_cons (pv 9) pa_nil))) ⟨rfl, rfl, rfl, rfl⟩) rfl)))))
      (pss_one (ps_ret (pv 4))))))), ?_⟩
  rintro ds r ⟨⟨circuit_0, version_0, pattern_0, _⟩, rfl, hr⟩
  exact does_o (eX := [.x, .x, .x, .x, .x, .x, .x, .x, .x, .x, .x]) (u := (oK eI)) (eL := fun (_ : Unit) => []) (eN := fun (_ : Unit) => []) (show Sx P w K _ _ _ _ _ [.d ((eCircuit K) circuit_0), .d (eD version_0), .d ((eT eI) pattern_0), .u, .u, .u, .u, .u, .u, .u, .u] (b_u_values (m_forced n_) circuit_0 version_0 pattern_0) _ from (sx_asg (xp_o (xo_call (xa_v (ds := (fun (a_ : CV × Dt × (List Int) × Unit) => [(eCircuit K) a_.1, eD a_.2.1, (eT eI) a_.2.2.1])) (v := (circuit_0, (version_0, (pattern_0, ())))) (ap_cons ep_var (ap_cons ep_var (ap_cons ep_var ap_nil)))) (fun _ => rfl)) (fun _ => rfl)) (fun forced_2 => (show Sx P w K _ _ _ _ _ [.d ((eCircuit K) circuit_0), .d (eD version_0), .d ((eT eI) pattern_0), .d ((eK eI) forced_2), .u, .u, .u, .u, .u, .u, .u] _ _ from (sx_own xo_dnew (fun found_3 => (show Sx P w K _ _ _ _ _ [.d ((eCircuit K) circuit_0), .d (eD version_0), .d ((eT eI) pattern_0), .d ((eK eI) forced_2), .ow none ((oK eI) found_3), .u, .u, .u, .u, .u, .u] _ _ from (sx_for (eS := (fun (v_7 : (List (Str × Int))) => [.d ((eCircuit K) circuit_0), .d (eD version_0), .d ((eT eI) pattern_0), .d ((eK eI) forced_2), .ow none ((oK eI) v_7), .x, .x, .u, .u, .u, .u])) (v0 := found_3) outO_ok (xi_zipM (xp_o (u := (oL eS)) (xo_meth (v := circuit_0) ep_var (xa_v (ds := (fun (a_ : Unit) => [])) (v := ()) ap_nil) (fun _ => rfl) (fun _ => rfl)) (fun _ => rfl)) (xp_v ep_var)) (Le.s (Le.s (Le.s (Le.s (Le.s (Le.x (Le.x (Le.s (Le.s (Le.s (Le.s Le.nil))))))))))) (fun v_7 (line_8 : (Str × Int)) => ⟨_, (ge_tup (gs_cons ge_name (gs_cons ge_name gs_nil))), (show Sx P w K _ _ _ _ _ [.d ((eCircuit K) circuit_0), .d (eD version_0), .d ((eT eI) pattern_0), .d ((eK eI) forced_2), .ow none ((oK eI) v_7), .d (eS line_8.1), .d (eI line_8.2), .u, .u, .u, .u] _ _ from (sx_last (sx_dputB (i := 4) rfl (xp_dget2 (xk_d (xp_v ep_var)) (xp_v ep_var) (xp_v ep_var)) (xp_v ep_var) (fun found_14 => (show Sx P w K _ _ _ _ _ [.d ((eCircuit K) circuit_0), .d (eD version_0), .d ((eT eI) pattern_0), .d ((eK eI) forced_2), .ow none ((oK eI) found_14), .d (eS line_8.1), .d (eI line_8.2), .u, .u, .u, .u] _ _ from (sx_end (Le.s (Le.s (Le.s (Le.s (Le.s (Le.x (Le.x (Le.s (Le.s (Le.s (Le.s Le.nil)))))))))))))))))⟩) (fun w_15 => (show Sx P w K _ _ _ _ _ [.d ((eCircuit K) circuit_0), .d (eD version_0), .d ((eT eI) pattern_0), .d ((eK eI) forced_2), .ow none ((oK eI) w_15), .x, .x, .u, .u, .u, .u] _ _ from (sx_for (eS := (fun (v_16 : (List (Str × Int))) => [.d ((eCircuit K) circuit_0), .d (eD version_0), .d ((eT eI) pattern_0), .d ((eK eI) forced_2), .ow none ((oK eI) v_16), .x, .x, .x, .x, .x, .u])) (v0 := w_15) outO_ok (xi_list (xp_v (ep_fld T.k_Circuit (T.a_Circuit "order" (by decide)) ep_var rfl))) (Le.s (Le.s (Le.s (Le.s (Le.s (Le.s (Le.s (Le.x (Le.x (Le.x (Le.s Le.nil))))))))))) (fun v_16 (line_17 : Gt) => ⟨_, (ge_tup (gs_cons ge_name (gs_cons ge_name (gs_cons ge_name gs_nil)))), (show Sx P w K _ _ _ _ _ [.d ((eCircuit K) circuit_0), .d (eD version_0), .d ((eT eI) pattern_0), .d ((eK eI) forced_2), .ow none ((oK eI) v_16), .d (eS line_17.l), .x, .d (eS line_17.k), .d ((eT eS) line_17.ps), .x, .u] _ _ from (sx_own (xo_lc (xi_tup (xp_v ep_var)) (fun pin_18 => ⟨_, gc_name, (xt_v tp_yes), (xp_dget (xk_o (i := 4) rfl) (xp_v ep_var))⟩)) (fun bits_22 => (show Sx P w K _ _ _ _ _ [.d ((eCircuit K) circuit_0), .d (eD version_0), .d ((eT eI) pattern_0), .d ((eK eI) forced_2), .ow none ((oK eI) v_16), .d (eS line_17.l), .x, .d (eS line_17.k), .d ((eT eS) line_17.ps), .ow none ((oL eI) bits_22), .u] _ _ from (sx_ifj (eM := (fun (j_36 : (List Int)) => [.d ((eCircuit K) circuit_0), .d (eD version_0), .d ((eT eI) pattern_0), .d ((eK eI) forced_2), .ow none ((oK eI) v_16), .d (eS line_17.l), .x, .d (eS line_17.k), .d ((eT eS) line_17.ps), .ow none ((oL eI) j_36), .u])) (fun b => (outO_ok b).1) (xt_and (xt_v (tp_test (ep_notND ep_var))) (xt_test (xp_opMV (xp_castM (as_tup as_str) (xp_any (xp_cutT (xp_cast (as_tup as_any) ep_var) qo_none (qo_some ep_int)))) (ep_is (e := (eT eS) ([("pin" : Str), line_17.l] : (List Str))) (ep_tup (ap_cons ep_str (ap_cons ep_var ap_nil)) (Nat.le_of_ble_eq_true rfl)) rfl) (fun _ => (rm_eqS (pyS_tup pyS_str) (by decide)))))) (sx_last (sx_setL (i := 9) rfl (xp_castM as_int (xp_opMV (xp_cast (as_tup as_any) ep_var) ep_int (fun _ => rm_ixT))) (xp_castM as_int (xp_opMV (xp_cast (as_tup as_any) ep_var) ep_int (fun _ => rm_ixT))) (fun bits_35 => (show Sx P w K _ _ _ _ _ [.d ((eCircuit K) circuit_0), .d (eD version_0), .d ((eT eI) pattern_0), .d ((eK eI) forced_2), .ow none ((oK eI) v_16), .d (eS line_17.l), .x, .d (eS line_17.k), .d ((eT eS) line_17.ps), .ow none ((oL eI) bits_35), .u] _ _ from (sx_end (Le.s (Le.s (Le.s (Le.s (Le.s (Le.s (Le.s (Le.s (Le.s (Le.s (Le.s Le.nil)))))))))))))))) (sx_end (Le.s (Le.s (Le.s (Le.s (Le.s (Le.s (Le.s (Le.s (Le.s (Le.s (Le.s Le.nil)))))))))))) (fun j_36 => (sx_last (sx_freeze 9 rfl rfl (sx_dputB (i := 4) rfl (xp_dget2 (xk_d (xp_v ep_var)) (xp_v ep_var) (xp_call (xa_v (ds := (fun (a_ : Str × (List Int) × Unit) => [eS a_.1, (eL eI) a_.2.1])) (v := (line_17.k, (j_36, ()))) (ap_cons ep_var (ap_cons ep_var ap_nil))) (fun _ => rfl))) (xp_v ep_var) (fun found_43 => (show Sx P w K _ _ _ _ _ [.d ((eCircuit K) circuit_0), .d (eD version_0), .d ((eT eI) pattern_0), .d ((eK eI) forced_2), .ow none ((oK eI) found_43), .d (eS line_17.l), .x, .d (eS line_17.k), .d ((eT eS) line_17.ps), .d ((eL eI) j_36), .u] _ _ from (sx_end (Le.s (Le.s (Le.s (Le.s (Le.s (Le.x (Le.s (Le.x (Le.x (Le.x (Le.s Le.nil)))))))))))))))))))))))⟩) (fun w_44 => (show Sx P w K _ _ _ _ _ [.d ((eCircuit K) circuit_0), .d (eD version_0), .d ((eT eI) pattern_0), .d ((eK eI) forced_2), .ow none ((oK eI) w_44), .x, .x, .x, .x, .x, .u] _ _ from (sx_last (sx_retV (i := 4) rfl rfl))))))))))))))) hr
def b_values (circuit_0 : CV) (version_0 : Dt) (pattern_0 : Dt) : R (Ctl Unit Unit (List (Str × Int))) := (R.bind (R.bind (R.ok (circuit_0, (version_0, ()))) fun t_1 => m_check_version t_1.1 t_1.2.1) fun _ => (R.bind (R.bind (R.ok (circuit_0, (pattern_0, ()))) fun t_2 => m_check_pattern t_2.1 t_2.2.1) fun _ => (R.bind (R.bind (R.bind (R.ok circuit_0) fun t_7 => R.bind (R.bind (R.ok version_0) fun t_5 => R.bind (R.bind (R.ofO ((asT asI) pattern_0)) fun t_3 => R.bind (R.ok ()) fun t_4 => R.ok (t_3, t_4)) fun t_6 => R.ok (t_5, t_6)) fun t_8 => R.ok (t_7, t_8)) fun t_9 => (m_u_values 2 t_9.1 t_9.2.1 t_9.2.2.1).nox) fun t_10 => R.ok (Ctl.rt t_10))))
def m_values (circuit_0 : CV) (version_0 : Dt) (pattern_0 : Dt) : R (List (Str × Int)) := (b_values circuit_0 version_0 pattern_0).fin
abbrev R_values (K : PySem.W.Frag) : List Dt → Rs → Prop := RF K (fun (a_ : CV × Dt × Dt × Unit) => [(eCircuit K) a_.1, eD a_.2.1, eD a_.2.2.1]) (fun a_ => m_values a_.1 a_.2.1 a_.2.2.1) (fun (b_ : (List (Str × Int))) => .o ((oK eI) b_))
theorem l_values (K : PySem.W.Frag) (ds : List Dt) (r : Rs) (h : R_values K ds r) : ds.length = 3 := by
  obtain ⟨_, rfl, _⟩ := h
  rfl
abbrev N_values : List Str := ["circuit", "version", "pattern"]
theorem sc_values : FnScope N_values ["circuit", "version", "pattern"] (defScope s_values) := ⟨rfl, rfl, rfl, by decide +kernel, rfl, by decide +kernel, by decide +kernel⟩
theorem k_values (T : Txt K mg) (D : Dx K mg "values" ["circuit", "version", "pattern"] s_values)  (G_check_version : Fx P w K mg base 6 "check_version" ["circuit", "version"] (spR P w K (Z_check_version K))) (G_check_pattern : Fx P w K mg base 4 "check_pattern" ["circuit", "pattern"] (spR P w K (R_check_pattern K))) (G__values : Fx P w K mg base 11 "_values" ["circuit", "version", "pattern"] (spR P w K (R_u_values 2 K))) : Fx P w K mg base 12 "values" ["circuit", "version", "pattern"] (spR P w K (R_values K)) := by
  refine Fx.ofX D sc_values (l_values K) fun f cdv A outer s H E hr tk => ?_
  refine ⟨_, (pss_cons (ps_expr (pe_fxS G_check_version (hr.mono (by decide)) tk (pa_cons (pv 0) (pa_cons (pv 1) pa_nil))))
      (pss_cons (ps_expr (pe_fxS G_check_pattern (hr.mono (by decide)) tk (pa_cons (pv 0) (pa_cons (pv 2) pa_nil))))
      (pss_one (ps_ret (pe_fx G__values (hr.mono (by decide)) (pa_cons (pv 0) (pa_cons (pv 1) (pa_cons (pv 2) pa_nil)))))))), ?_⟩
  rintro ds r ⟨⟨circuit_0, version_0, pattern_0, _⟩, rfl, hr⟩
  exact does_o (eX := [.x, .x, .x]) (u := (oK eI)) (eL := fun (_ : Unit) => []) (eN := fun (_ : Unit) => []) (show Sx P w K _ _ _ _ _ [.d ((eCircuit K) circuit_0), .d (eD version_0), .d (eD pattern_0)] (b_values circuit_0 version_0 pattern_0) _ from (sx_drop (xp_callX (xa_v (ds := (fun (a_ : CV × Dt × Unit) => [(eCircuit K) a_.1, eD a_.2.1])) (v := (circuit_0, (version_0, ()))) (ap_cons ep_var (ap_cons ep_var ap_nil))) (fun _ => rfl) (Le.x (Le.x (Le.x Le.nil)))) (fun _ => (sx_drop (xp_callX (xa_v (ds := (fun (a_ : CV × Dt × Unit) => [(eCircuit K) a_.1, eD a_.2.1])) (v := (circuit_0, (pattern_0, ()))) (ap_cons ep_var (ap_cons ep_var ap_nil))) (fun _ => rfl) (Le.x (Le.x (Le.x Le.nil)))) (fun _ => (sx_last (sx_reto (xo_call (xa_consM (da := (eCircuit K)) (xp_v ep_var) (xa_consM (da := eD) (xp_v ep_var) (xa_consM (da := (eT eI)) (xp_cast (as_tup as_int) ep_var) xa_nil))) (fun _ => rfl)) (fun _ => rfl)))))))) hr
def b_response (circuit_0 : CV) (version_0 : Dt) (pattern_0 : Dt) : R (Ctl Unit Unit (List Int)) := (R.bind (R.bind (R.ok (circuit_0, (version_0, (pattern_0, ())))) fun t_1 => m_values t_1.1 t_1.2.1 t_1.2.2.1) fun found_2 => (R.bind (R.bind (R.bind (R.ok ()) fun t_3 => ((m_Circuit_sinks circuit_0 )).nox) fun l_7 => (R.lcR l_7 (fun line_4 => (R.ok true)) (fun line_4 => (R.bind (R.ok found_2) fun t_5 => R.bind (R.ok line_4) fun t_6 => getR t_5 t_6))).nox) fun t_8 => R.ok (Ctl.rt t_8)))
def m_response (circuit_0 : CV) (version_0 : Dt) (pattern_0 : Dt) : R (List Int) := (b_response circuit_0 version_0 pattern_0).fin
abbrev R_response (K : PySem.W.Frag) : List Dt → Rs → Prop := RF K (fun (a_ : CV × Dt × Dt × Unit) => [(eCircuit K) a_.1, eD a_.2.1, eD a_.2.2.1]) (fun a_ => m_response a_.1 a_.2.1 a_.2.2.1) (fun (b_ : (List Int)) => .d ((eT eI) b_))
theorem l_response (K : PySem.W.Frag) (ds : List Dt) (r : Rs) (h : R_response K ds r) : ds.length = 3 := by
  obtain ⟨_, rfl, _⟩ := h
  rfl
abbrev N_response : List Str := ["circuit", "version", "pattern", "found", "line"]
theorem sc_response : FnScope N_response ["circuit", "version", "pattern"] (defScope s_response) := ⟨rfl, rfl, rfl, by decide +kernel, rfl, by decide +kernel, by decide +kernel⟩
theorem k_response (T : Txt K mg) (D : Dx K mg "response" ["circuit", "version", "pattern"] s_response)  (G_values : Fx P w K mg base 12 "values" ["circuit", "version", "pattern"] (spR P w K (R_values K))) (M_Circuit_sinks : Mx P w K mg base 1 (He.ga K "Circuit") "sinks" ["self"] (spR P w K (Z_Circuit_sinks K))) : Fx P w K mg base 13 "response" ["circuit", "version", "pattern"] (spR P w K (R_response K)) := by
  refine Fx.ofX D sc_response (l_response K) fun f cdv A outer s H E hr tk => ?_
  have hu : (A.deeper (envOfC "response" (defScope s_response) s.heap.objs.size f cdv)).units + 64 < cLine := hr.units
  have hu1 : (A.deeper (envOfC "response" (defScope s_response) s.heap.objs.size f cdv)).units + 1 < cLine := Nat.lt_of_le_of_lt (Nat.add_le_add_left (by decide) _) hu
  refine ⟨_, (pss_cons (pset (i := 3) sc_response.nd (pe_fxS G_values (hr.mono (by decide)) tk (pa_cons (pv 0) (pa_cons (pv 1) (pa_cons (pv 2) pa_nil)))))
      (pss_one (ps_ret (pe_callTy cr_tuple (by rfl) T.f_tuple (by decide +kernel) (pa_cons (pe_lc (own := [("line", 4)]) (g := gName 4) (tt := tYes) rfl sc_response.nd (pi_list (pe_mx0 M_Circuit_sinks T.k_Circuit (hr.mono (by decide)) (pv 0))) (blkOk_by (N := N_response) (sc := defScope s_response) (by decide +kernel)) (fun _ _ _ _ _ => (pgn (i := 4) sc_response.nd)) (fun _ _ _ _ _ => pts_nil) (fun _ _ _ _ _ => (pe_dget hu1 (pv 3) (pv 4) (fun _ _ => rfl)))) pa_nil))))), ?_⟩
  rintro ds r ⟨⟨circuit_0, version_0, pattern_0, _⟩, rfl, hr⟩
  exact does_d (eX := [.x, .x, .x, .x, .x]) (d := (eT eI)) (eL := fun (_ : Unit) => []) (eN := fun (_ : Unit) => []) (show Sx P w K _ _ _ _ _ [.d ((eCircuit K) circuit_0), .d (eD version_0), .d (eD pattern_0), .u, .u] (b_response circuit_0 version_0 pattern_0) _ from (sx_asg (xp_o (xo_callX (xa_v (ds := (fun (a_ : CV × Dt × Dt × Unit) => [(eCircuit K) a_.1, eD a_.2.1, eD a_.2.2.1])) (v := (circuit_0, (version_0, (pattern_0, ())))) (ap_cons ep_var (ap_cons ep_var (ap_cons ep_var ap_nil)))) (fun _ => rfl) (Le.x (Le.x (Le.x (Le.x (Le.x Le.nil)))))) (fun _ => rfl)) (fun found_2 => (show Sx P w K _ _ _ _ _ [.d ((eCircuit K) circuit_0), .d (eD version_0), .d (eD pattern_0), .d ((eK eI) found_2), .u] _ _ from (sx_last (sx_ret (xp_tupleL (xp_o (u := (oL eI)) (xo_lc (xi_list (xp_o (u := (oL eS)) (xo_meth (v := circuit_0) ep_var (xa_v (ds := (fun (a_ : Unit) => [])) (v := ()) ap_nil) (fun _ => rfl) (fun _ => rfl)) (fun _ => rfl))) (fun line_4 => ⟨_, gc_name, (xt_v tp_yes), (xp_dget (xk_d (xp_v ep_var)) (xp_v ep_var))⟩)) (fun _ => rfl))) (fun _ => rfl))))))) hr
end
end CC
set_option maxHeartbeats 1000000
namespace CC
open PySem PySem.Spec PyProof.Rows L2 Qw Mw RZ
open Evl hiding ea_cons
open Pw (Dt Rp RpL Wk R2d R1d RLd RLn Kq KqL spX2 Xm Xm0 cr_int cr_min2 cr_max2 cr_list cr_tuple rTupS cr_len pe_globI pe_globS pe_globR pe_tyname)
section
variable {P : Program} {w : World} {K : PySem.W.Frag} {mg : Str → Option Value} {base : Heap}
open Mw
def b_chains (circuit_0 : CV) (count_0 : Int) : R (Ctl Unit Unit (List (List Int))) := (R.bind (R.ok (circuit_0.1.rs.length : Int)) fun size_1 => (R.bind (R.bind (R.bind (R.ok ((eI count_0), ((1 : Int), ((if size_1 > (1 : Int) then size_1 else (1 : Int)), ())))) fun t_2 => (m_is_integer t_2.1 t_2.2.1 t_2.2.2.1).nox) fun t_3 => R.ok (!t_3)) fun c_4 => if c_4 = true then (R.ex ⟨"BadTester", [], []⟩) else (R.bind (R.ok ([] : (List (List Int)))) fun found_6 => (R.bind (R.ok (0 : Int)) fun start_7 => (R.bind (R.bind (R.ok (count_0, ())) fun t_8 => R.need (-100000 ≤ t_8.1 ∧ t_8.1 ≤ 100000) (R.ok (rangeI 0 (t_8.1).toNat))) fun l_20 => R.bindC (R.forR l_20 (found_6, start_7) (fun (v_9 : (List (List Int)) × Int) (place_10 : Int) => (R.bind (R.bind (R.bind (divR size_1 count_0) fun t_11 => (R.ok (v_9.2 + t_11))) fun t_14 => R.bind (R.bind (R.bind (modR size_1 count_0) fun t_12 => (R.ok (decide (place_10 < t_12)))) fun t_13 => if t_13 = true then (R.ok (1 : Int)) else (R.ok (0 : Int))) fun t_15 => (R.ok (t_14 + t_15))) fun end_16 => (R.bind (tupRg v_9.2 end_16) fun t_17 => R.need ((List.map (eT eI) v_9.1).length < 100000) (R.bind (R.ok end_16) fun start_18 => (R.ok (Ctl.nx ((v_9.1 ++ [t_17]), start_18)))))))) (fun (w_19 : (List (List Int)) × Int) => (R.ok (Ctl.rt w_19.1))))))))
def m_chains (circuit_0 : CV) (count_0 : Int) : R (List (List Int)) := (b_chains circuit_0 count_0).fin
abbrev R_chains (K : PySem.W.Frag) : List Dt → Rs → Prop := RF K (fun (a_ : CV × Int × Unit) => [(eCircuit K) a_.1, eI a_.2.1]) (fun a_ => m_chains a_.1 a_.2.1) (fun (b_ : (List (List Int))) => .o ((oL (eT eI)) b_))
theorem l_chains (K : PySem.W.Frag) (ds : List Dt) (r : Rs) (h : R_chains K ds r) : ds.length = 2 := by
  obtain ⟨_, rfl, _⟩ := h
  rfl
abbrev N_chains : List Str := ["circuit", "count", "size", "found", "start", "place", "end"]
theorem sc_chains : FnScope N_chains ["circuit", "count"] (defScope s_chains) := ⟨rfl, rfl, rfl, by decide +kernel, rfl, by decide +kernel, by decide +kernel⟩
theorem k_chains (T : Txt K mg) (D : Dx K mg "chains" ["circuit", "count"] s_chains)  (G_is_integer : Fx P w K mg base 1 "is_integer" ["value", "least", "greatest"] (spR P w K (Z_is_integer K))) (X_BadTester : Xm1 K mg "BadTester" (He.ga K "BadTester")) : Fx P w K mg base 2 "chains" ["circuit", "count"] (spR P w K (R_chains K)) := by
  refine Fx.ofX D sc_chains (l_chains K) fun f cdv A outer s H E hr tk => ?_
  refine ⟨_, (pss_cons (pset (i := 2) sc_chains.nd (pe_callB cr_len (by rfl) T.f_len PySem.boot_len (pa_cons (pe_fld (pv 0) rfl) pa_nil)))
      (pss_cons (ps_if (pt_not (pt_val (pe_fx G_is_integer (hr.mono (by decide)) (pa_cons (pv 1) (pa_cons pe_int (pa_cons (pe_callB (cr_max2 rfl) (by rfl) T.f_max (by decide +kernel) (pa_cons pe_int (pa_cons (pv 2) pa_nil))) pa_nil)))))) (pss_one (ps_raise rfl tk (pm_1 X_BadTester))) pss_nil)
      (pss_cons (pset (i := 3) sc_chains.nd (pe_lst pa_nil))
      (pss_cons (pset (i := 4) sc_chains.nd pe_int)
      (pss_cons (ps_for (passes_of rfl) rfl (pi_range1 rfl T.f_range (pa_cons (pv 1) pa_nil)) (pgn (i := 5) sc_chains.nd)
      (pss_cons (pset (i := 6) sc_chains.nd (pe_op op_add (pe_op op_add (pv 4) (pe_op op_fdiv (pv 2) (pv 1))) (pe_ifExp (pt_cmpR op_lt (pv 5) (pe_op op_mod (pv 2) (pv 1)) (nomark _)) pe_int pe_int)))
      (pss_cons (ps_expr (pe_bm PySem.F.plainAttrs_list PySem.F.slot_list_append PySem.F.type_list_append mt_append (pv 3) (pa_cons (pe_tupRg rfl (by rfl) T.f_tuple (prg_2 (by rfl) T.f_range (pv 4) (pv 6))) pa_nil)))
      (pss_one (pset (i := 4) sc_chains.nd (pv 6))))))
      (pss_one (ps_ret (pv 3)))))))), ?_⟩
  rintro ds r ⟨⟨circuit_0, count_0, _⟩, rfl, hr⟩
  exact does_o (eX := [.x, .x, .x, .x, .x, .x, .x]) (u := (oL (eT eI))) (eL := fun (_ : Unit) => []) (eN := fun (_ : Unit) => []) (show Sx P w K _ _ _ _ _ [.d ((eCircuit K) circuit_0), .d (eI count_0), .u, .u, .u, .u, .u] (b_chains circuit_0 count_0) _ from (sx_asg (xp_v (ep_cb (ap_cons (ep_fld T.k_Circuit (T.a_Circuit "registers" (by decide)) ep_var rfl) ap_nil) rl_lenTm)) (fun size_1 => (show Sx P w K _ _ _ _ _ [.d ((eCircuit K) circuit_0), .d (eI count_0), .d (eI size_1), .u, .u, .u, .u] _ _ from (sx_if (xt_not (xt_B (xp_call (xa_v (ds := (fun (a_ : Dt × Int × Int × Unit) => [eD a_.1, eI a_.2.1, eI a_.2.2.1])) (v := ((eI count_0), ((1 : Int), ((if size_1 > (1 : Int) then size_1 else (1 : Int)), ())))) (ap_cons ep_var (ap_cons ep_int (ap_cons (ep_cb (ap_cons ep_int (ap_cons ep_var ap_nil)) Pw.rl_max2) ap_nil)))) (fun _ => rfl)))) (sx_raise0 (Le.x (Le.x (Le.x (Le.x (Le.x (Le.x (Le.x Le.nil)))))))) (sx_skip (sx_own (xo_v (po_n (np_lst ap_nil))) (fun found_6 => (show Sx P w K _ _ _ _ _ [.d ((eCircuit K) circuit_0), .d (eI count_0), .d (eI size_1), .ow none ((oL (eT eI)) found_6), .u, .u, .u] _ _ from (sx_asg (xp_v ep_int) (fun start_7 => (show Sx P w K _ _ _ _ _ [.d ((eCircuit K) circuit_0), .d (eI count_0), .d (eI size_1), .ow none ((oL (eT eI)) found_6), .d (eI start_7), .u, .u] _ _ from (sx_for (eS := (fun (v_9 : (List (List Int)) × Int) => [.d ((eCircuit K) circuit_0), .d (eI count_0), .d (eI size_1), .ow none ((oL (eT eI)) v_9.1), .d (eI v_9.2), .x, .x])) (v0 := (found_6, start_7)) outO_ok (xi_rng1 (n := fun (a_ : Int × Unit) => a_.1) (xa_v (ds := (fun (a_ : Int × Unit) => [eI a_.1])) (v := (count_0, ())) (ap_cons ep_var ap_nil))) (Le.s (Le.s (Le.s (Le.s (Le.s (Le.x (Le.x Le.nil))))))) (fun v_9 (place_10 : Int) => ⟨_, ge_name, (show Sx P w K _ _ _ _ _ [.d ((eCircuit K) circuit_0), .d (eI count_0), .d (eI size_1), .ow none ((oL (eT eI)) v_9.1), .d (eI v_9.2), .d (eI place_10), .x] _ _ from (sx_asg (xp_opMM (xp_opVM ep_var (xp_opVV ep_var ep_var rm_div) (fun _ => (rm_v Pw.r2_I0))) (xp_if (xt_test (xp_opVM ep_var (xp_opVV ep_var ep_var rm_mod) (fun _ => (rm_v Pw.r2_B0)))) (xp_v ep_int) (xp_v ep_int)) (fun _ _ => (rm_v Pw.r2_I0))) (fun end_16 => (show Sx P w K _ _ _ _ _ [.d ((eCircuit K) circuit_0), .d (eI count_0), .d (eI size_1), .ow none ((oL (eT eI)) v_9.1), .d (eI v_9.2), .d (eI place_10), .d (eI end_16)] _ _ from (sx_app (i := 3) (xs := List.map (eT eI) v_9.1) rfl (xp_tupRg ep_var ep_var) (fun t_17 => (sx_app1 3 (show Sx P w K _ _ _ _ _ [.d ((eCircuit K) circuit_0), .d (eI count_0), .d (eI size_1), .ow none ((oL (eT eI)) (v_9.1 ++ [t_17])), .d (eI v_9.2), .d (eI place_10), .d (eI end_16)] _ _ from (sx_last (sx_asg (xp_v ep_var) (fun start_18 => (show Sx P w K _ _ _ _ _ [.d ((eCircuit K) circuit_0), .d (eI count_0), .d (eI size_1), .ow none ((oL (eT eI)) (v_9.1 ++ [t_17])), .d (eI start_18), .d (eI place_10), .d (eI end_16)] _ _ from (sx_end (Le.s (Le.s (Le.s (Le.s (Le.s (Le.x (Le.x Le.nil))))))))))))))))))))⟩) (fun w_19 => (show Sx P w K _ _ _ _ _ [.d ((eCircuit K) circuit_0), .d (eI count_0), .d (eI size_1), .ow none ((oL (eT eI)) w_19.1), .d (eI w_19.2), .x, .x] _ _ from (sx_last (sx_retV (i := 3) rfl rfl))))))))))))))))) hr
def b_check_bits (bits_0 : (List Int)) (count_0 : Int) : R (Ctl Unit Unit Unit) := (R.bind (R.bind (R.bind (R.ok (((eT eI) bits_0), (count_0, ()))) fun t_1 => (m_are_bits t_1.1 t_1.2.1).nox) fun t_2 => R.ok (!t_2)) fun c_3 => if c_3 = true then (R.ex ⟨"BadTester", [], []⟩) else (R.ok (Ctl.nx ())))
def m_check_bits (bits_0 : (List Int)) (count_0 : Int) : R Unit := (b_check_bits bits_0 count_0).finU
abbrev R_check_bits (K : PySem.W.Frag) : List Dt → Rs → Prop := RF K (fun (a_ : (List Int) × Int × Unit) => [(eT eI) a_.1, eI a_.2.1]) (fun a_ => m_check_bits a_.1 a_.2.1) (fun (b_ : Unit) => .d (eU b_))
theorem l_check_bits (K : PySem.W.Frag) (ds : List Dt) (r : Rs) (h : R_check_bits K ds r) : ds.length = 2 := by
  obtain ⟨_, rfl, _⟩ := h
  rfl
abbrev N_check_bits : List Str := ["bits", "count"]
theorem sc_check_bits : FnScope N_check_bits ["bits", "count"] (defScope s_check_bits) := ⟨rfl, rfl, rfl, by decide +kernel, rfl, by decide +kernel, by decide +kernel⟩
theorem k_check_bits (T : Txt K mg) (D : Dx K mg "_check_bits" ["bits", "count"] s_check_bits)  (G_are_bits : Fx P w K mg base 3 "are_bits" ["value", "count"] (spR P w K (R_are_bits K))) (X_BadTester : Xm1 K mg "BadTester" (He.ga K "BadTester")) : Fx P w K mg base 4 "_check_bits" ["bits", "count"] (spR P w K (R_check_bits K)) := by
  refine Fx.ofX D sc_check_bits (l_check_bits K) fun f cdv A outer s H E hr tk => ?_
  refine ⟨_, (pss_one (ps_if (pt_not (pt_val (pe_fx G_are_bits (hr.mono (by decide)) (pa_cons (pv 0) (pa_cons (pv 1) pa_nil))))) (pss_one (ps_raise rfl tk (pm_1 X_BadTester))) pss_nil)), ?_⟩
  rintro ds r ⟨⟨bits_0, count_0, _⟩, rfl, hr⟩
  exact does_u (eX := [.x, .x]) (eL := fun (_ : Unit) => []) (eN := fun (_ : Unit) => [.x, .x]) (show Sx P w K _ _ _ _ _ [.d ((eT eI) bits_0), .d (eI count_0)] (b_check_bits bits_0 count_0) _ from (sx_last (sx_if (xt_not (xt_B (xp_call (xa_v (ds := (fun (a_ : Dt × Int × Unit) => [eD a_.1, eI a_.2.1])) (v := (((eT eI) bits_0), (count_0, ()))) (ap_cons ep_var (ap_cons ep_var ap_nil))) (fun _ => rfl)))) (sx_raise0 (Le.x (Le.x Le.nil))) (sx_skip (sx_end (eN := fun _ => [.x, .x]) (Le.x (Le.x Le.nil))))))) hr
def b_Tester_init (circuit_0 : CV) (version_0 : Dt) (count_0 : Int) (start_0 : (List Int)) : R (Ctl (CV × Dt × (List (List Int)) × (List Int)) Unit Unit) := (R.bind (R.bind (R.ok (circuit_0, (version_0, ()))) fun t_1 => m_check_version t_1.1 t_1.2.1) fun _ => (R.bind (R.bind (R.ok (start_0, ((circuit_0.1.rs.length : Int), ()))) fun t_2 => m_check_bits t_2.1 t_2.2.1) fun _ => (R.bind (R.ok circuit_0) fun circuit_3 => (R.bind (R.ok version_0) fun version_4 => (R.bind (R.bind (R.ok (circuit_0, (count_0, ()))) fun t_5 => m_chains t_5.1 t_5.2.1) fun chains_6 => (R.bind (R.ok start_0) fun held_7 => (R.ok (Ctl.nx (circuit_3, version_4, chains_6, held_7)))))))))
def m_Tester_init (circuit_0 : CV) (version_0 : Dt) (count_0 : Int) (start_0 : (List Int)) : R (CV × Dt × (List (List Int)) × (List Int)) := (b_Tester_init circuit_0 version_0 count_0 start_0).finI
abbrev R_Tester_init (K : PySem.W.Frag) : List Dt → Ri → Prop := RI K ["circuit", "version", "chains", "held"] (fun (a_ : CV × Dt × Int × (List Int) × Unit) => [(eCircuit K) a_.1, eD a_.2.1, eI a_.2.2.1, (eT eI) a_.2.2.2.1]) (fun a_ => m_Tester_init a_.1 a_.2.1 a_.2.2.1 a_.2.2.2.1) (fun (b_ : (CV × Dt × (List (List Int)) × (List Int))) => [(eCircuit K) b_.1, eD b_.2.1, (eL (eT eI)) b_.2.2.1, (eT eI) b_.2.2.2])
theorem l_Tester_init (K : PySem.W.Frag) (ds : List Dt) (r : Ri) (h : R_Tester_init K ds r) : ds.length + 1 = 5 := by
  obtain ⟨_, rfl, _⟩ := h
  rfl
abbrev N_Tester_init : List Str := ["self", "circuit", "version", "count", "start"]
theorem sc_Tester_init : FnScope N_Tester_init ["self", "circuit", "version", "count", "start"] (defScope s_Tester_init) := ⟨rfl, rfl, rfl, by decide +kernel, rfl, by decide +kernel, by decide +kernel⟩
theorem k_Tester_init (T : Txt K mg) (D : Di K mg (He.ga K "Tester") "Tester" "Tester.__init__" ["self", "circuit", "version", "count", "start"] s_Tester_init)  (G_check_version : Fx P w K mg base 6 "check_version" ["circuit", "version"] (spR P w K (Z_check_version K))) (G__check_bits : Fx P w K mg base 4 "_check_bits" ["bits", "count"] (spR P w K (R_check_bits K))) (G_chains : Fx P w K mg base 2 "chains" ["circuit", "count"] (spR P w K (R_chains K))) : Ix P w K mg base 7 (He.ga K "Tester") "Tester" ["self", "circuit", "version", "count", "start"] (spI P w K (He.ga K "Tester") (R_Tester_init K)) := by
  refine Ix.of D sc_Tester_init (l_Tester_init K) fun f cdv A outer s H E hr tk => ?_
  refine ⟨_, (pss_cons (ps_expr (pe_fxS G_check_version (hr.mono (by decide)) tk (pa_cons (pv 1) (pa_cons (pv 2) pa_nil))))
      (pss_cons (ps_expr (pe_fxS G__check_bits (hr.mono (by decide)) tk (pa_cons (pv 4) (pa_cons (pe_callB cr_len (by rfl) T.f_len PySem.boot_len (pa_cons (pe_fld (pv 1) rfl) pa_nil)) pa_nil))))
      (pss_cons (ps_fld (pv 0) (pv 1) rfl)
      (pss_cons (ps_fld (pv 0) (pv 2) rfl)
      (pss_cons (ps_fld (pv 0) (pe_fxS G_chains (hr.mono (by decide)) tk (pa_cons (pv 1) (pa_cons (pv 3) pa_nil))) rfl)
      (pss_one (ps_fld (pv 0) (pv 4) rfl))))))), ?_⟩
  rintro p_ ds r ⟨⟨circuit_0, version_0, count_0, start_0, _⟩, rfl, hr⟩
  exact Mw.does_i (eX := [.x, .x, .x, .x, .x]) (ef := fun (b_ : (CV × Dt × (List (List Int)) × (List Int))) => [(eCircuit K) b_.1, eD b_.2.1, (eL (eT eI)) b_.2.2.1, (eT eI) b_.2.2.2]) (eL := fun (_ : Unit) => []) (out := fun (_ : Unit) => .rt .non) (show Sx P w K _ _ _ _ _ [.ow (some p_) (.ins (He.ga K "Tester") [] []), .d ((eCircuit K) circuit_0), .d (eD version_0), .d (eI count_0), .d ((eT eI) start_0)] (b_Tester_init circuit_0 version_0 count_0 start_0) _ from (sx_drop (xp_callX (xa_v (ds := (fun (a_ : CV × Dt × Unit) => [(eCircuit K) a_.1, eD a_.2.1])) (v := (circuit_0, (version_0, ()))) (ap_cons ep_var (ap_cons ep_var ap_nil))) (fun _ => rfl) (Le.x (Le.x (Le.x (Le.x (Le.x Le.nil)))))) (fun _ => (sx_drop (xp_callX (xa_v (ds := (fun (a_ : (List Int) × Int × Unit) => [(eT eI) a_.1, eI a_.2.1])) (v := (start_0, ((circuit_0.1.rs.length : Int), ()))) (ap_cons ep_var (ap_cons (ep_cb (ap_cons (ep_fld T.k_Circuit (T.a_Circuit "registers" (by decide)) ep_var rfl) ap_nil) rl_lenTm) ap_nil))) (fun _ => rfl) (Le.x (Le.x (Le.x (Le.x (Le.x Le.nil)))))) (fun _ => (sx_fld (i := 0) (n := "circuit") (fs := []) T.k_Tester (T.a_Tester "circuit" (by decide)) (xp_v ep_var) rfl (by decide +kernel) (by decide) (fun circuit_3 => (show Sx P w K _ _ _ _ _ [.ow (some p_) (.ins (He.ga K "Tester") ["circuit"] [(eCircuit K) circuit_3]), .d ((eCircuit K) circuit_0), .d (eD version_0), .d (eI count_0), .d ((eT eI) start_0)] _ _ from (sx_fld (i := 0) (n := "version") (fs := ["circuit"]) T.k_Tester (T.a_Tester "version" (by decide)) (xp_v ep_var) rfl (by decide +kernel) (by decide) (fun version_4 => (show Sx P w K _ _ _ _ _ [.ow (some p_) (.ins (He.ga K "Tester") ["circuit", "version"] [(eCircuit K) circuit_3, eD version_4]), .d ((eCircuit K) circuit_0), .d (eD version_0), .d (eI count_0), .d ((eT eI) start_0)] _ _ from (sx_fld (i := 0) (n := "chains") (fs := ["circuit", "version"]) T.k_Tester (T.a_Tester "chains" (by decide)) (xp_o (u := (oL (eT eI))) (xo_callX (xa_v (ds := (fun (a_ : CV × Int × Unit) => [(eCircuit K) a_.1, eI a_.2.1])) (v := (circuit_0, (count_0, ()))) (ap_cons ep_var (ap_cons ep_var ap_nil))) (fun _ => rfl) (Le.x (Le.x (Le.x (Le.x (Le.x Le.nil)))))) (fun _ => rfl)) rfl (by decide +kernel) (by decide) (fun chains_6 => (show Sx P w K _ _ _ _ _ [.ow (some p_) (.ins (He.ga K "Tester") ["circuit", "version", "chains"] [(eCircuit K) circuit_3, eD version_4, (eL (eT eI)) chains_6]), .d ((eCircuit K) circuit_0), .d (eD version_0), .d (eI count_0), .d ((eT eI) start_0)] _ _ from (sx_last (sx_fld (i := 0) (n := "held") (fs := ["circuit", "version", "chains"]) T.k_Tester (T.a_Tester "held" (by decide)) (xp_v ep_var) rfl (by decide +kernel) (by decide) (fun held_7 => (show Sx P w K _ _ _ _ _ [.ow (some p_) (.ins (He.ga K "Tester") ["circuit", "version", "chains", "held"] [(eCircuit K) circuit_3, eD version_4, (eL (eT eI)) chains_6, (eT eI) held_7]), .d ((eCircuit K) circuit_0), .d (eD version_0), .d (eI count_0), .d ((eT eI) start_0)] _ _ from (sx_end (eN := fun (b_ : (CV × Dt × (List (List Int)) × (List Int))) => [.ow (some p_) (.ins (He.ga K "Tester") ["circuit", "version", "chains", "held"] [(eCircuit K) b_.1, eD b_.2.1, (eL (eT eI)) b_.2.2.1, (eT eI) b_.2.2.2]), .x, .x, .x, .x]) (Le.s (Le.x (Le.x (Le.x (Le.x Le.nil)))))))))))))))))))))))) (fun _ => rfl) hr
def b_Tester_stored (self_0 : (CV × Dt × (List (List Int)) × (List Int))) : R (Ctl Unit Unit (List Int)) := (R.bind (R.ok self_0.2.2.2) fun t_1 => R.ok (Ctl.rt t_1))
def m_Tester_stored (self_0 : (CV × Dt × (List (List Int)) × (List Int))) : R (List Int) := (b_Tester_stored self_0).fin
abbrev R_Tester_stored (K : PySem.W.Frag) : List Dt → Rs → Prop := RF K (fun (a_ : (CV × Dt × (List (List Int)) × (List Int)) × Unit) => [(eTester K) a_.1]) (fun a_ => m_Tester_stored a_.1) (fun (b_ : (List Int)) => .d ((eT eI) b_))
theorem l_Tester_stored (K : PySem.W.Frag) (ds : List Dt) (r : Rs) (h : R_Tester_stored K ds r) : ds.length = 1 := by
  obtain ⟨_, rfl, _⟩ := h
  rfl
abbrev N_Tester_stored : List Str := ["self"]
theorem sc_Tester_stored : FnScope N_Tester_stored ["self"] (defScope s_Tester_stored) := ⟨rfl, rfl, rfl, by decide +kernel, rfl, by decide +kernel, by decide +kernel⟩
theorem k_Tester_stored (T : Txt K mg) (D : Dm K (He.ga K "Tester") "stored" "Tester.stored" ["self"] s_Tester_stored)  : Mx P w K mg base 1 (He.ga K "Tester") "stored" ["self"] (spR P w K (R_Tester_stored K)) := by
  refine Mx.of D sc_Tester_stored (l_Tester_stored K) fun f cdv A outer s H E hr => ?_
  refine ⟨_, (pss_one (ps_ret (pe_fld (pv 0) rfl))), ?_⟩
  rintro ds r ⟨⟨self_0, _⟩, rfl, hr⟩
  exact does_d (eX := [.x]) (d := (eT eI)) (eL := fun (_ : Unit) => []) (eN := fun (_ : Unit) => []) (show Sx P w K _ _ _ _ _ [.d ((eTester K) self_0)] (b_Tester_stored self_0) _ from (sx_last (sx_ret (xp_v (ep_fld T.k_Tester (T.a_Tester "held" (by decide)) ep_var rfl)) (fun _ => rfl)))) hr
def b_Tester_shift (self_0 : (CV × Dt × (List (List Int)) × (List Int))) (bits_0 : (List Int)) : R (Ctl Unit Unit ((List Int) × (CV × Dt × (List (List Int)) × (List Int)))) := (R.bind (R.bind (R.ok (bits_0, ((self_0.2.2.1.length : Int), ()))) fun t_1 => m_check_bits t_1.1 t_1.2.1) fun _ => (R.bind (R.ok ([] : (List Int))) fun held_3 => (R.bind (R.ok ([] : (List Int))) fun log_5 => (R.bind (R.bind (R.ok bits_0) fun t_6 => R.bind (R.ok self_0.2.2.1) fun t_7 => R.ok (List.zip t_6 t_7)) fun l_22 => R.bindC (R.forR l_22 (held_3, log_5) (fun (v_8 : (List Int) × (List Int)) (bit_9 : (Int × (List Int))) => (R.bind (R.bind (R.ok bit_9.1) fun t_12 => R.bind (R.bind (R.ok bit_9.2) fun l_11 => (R.lcR l_11 (fun index_10 => (R.ok true)) (fun index_10 => (ixR self_0.2.2.2 index_10))).nox) fun t_13 => R.need ((t_12 :: t_13).length ≤ 100000) (R.ok (t_12 :: t_13))) fun moved_14 => (R.bind (R.bind (R.ok moved_14) fun t_15 => R.ok (cutR t_15 none (some (-1 : Int)))) fun t_16 => R.need ((v_8.1).length + t_16.length ≤ 100000) (R.bind (ixR moved_14 (-1 : Int)) fun t_17 => R.need ((List.map eI v_8.2).length < 100000) (R.ok (Ctl.nx ((v_8.1 ++ t_16), (v_8.2 ++ [t_17]))))))))) (fun (w_18 : (List Int) × (List Int)) => (R.bind (R.ok w_18.1) fun held_19 => (R.bind2 (R.bind (R.ok w_18.2) fun a_ => R.ok (a_, (self_0.1, self_0.2.1, self_0.2.2.1, held_19))) fun t_20 s_21 => R.ok (Ctl.rt (t_20, s_21)))))))))
def m_Tester_shift (self_0 : (CV × Dt × (List (List Int)) × (List Int))) (bits_0 : (List Int)) : R ((List Int) × (CV × Dt × (List (List Int)) × (List Int))) := (b_Tester_shift self_0 bits_0).fin
abbrev MM_Tester_shift (K : PySem.W.Frag) : Ow → List Dt → Dt → Ow → Prop := RM (oTester K) (fun (a_ : (List Int) × Unit) => [(eT eI) a_.1]) (fun (v_ : (CV × Dt × (List (List Int)) × (List Int))) a_ => m_Tester_shift v_ a_.1) (eT eI)
abbrev N_Tester_shift : List Str := ["self", "bits", "held", "log", "bit", "chain", "moved", "index"]
theorem sc_Tester_shift : FnScope N_Tester_shift ["self", "bits"] (defScope s_Tester_shift) := ⟨rfl, rfl, rfl, by decide +kernel, rfl, by decide +kernel, by decide +kernel⟩
theorem k_Tester_shift (T : Txt K mg) (D : Dm K (He.ga K "Tester") "shift" "Tester.shift" ["self", "bits"] s_Tester_shift)  (G__check_bits : Fx P w K mg base 4 "_check_bits" ["bits", "count"] (spR P w K (R_check_bits K))) : Mx P w K mg base 5 (He.ga K "Tester") "shift" ["self", "bits"] (spM P w K (MM_Tester_shift K)) := by
  refine Mx.ofSpX D sc_Tester_shift (spM_len (n := 2) fun _ => rfl) fun f cdv A outer s H E hr tk => ?_
  refine ⟨_, (pss_cons (ps_expr (pe_fxS G__check_bits (hr.mono (by decide)) tk (pa_cons (pv 1) (pa_cons (pe_callB cr_len (by rfl) T.f_len PySem.boot_len (pa_cons (pe_fld (pv 0) rfl) pa_nil)) pa_nil))))
      (pss_cons (pset (i := 2) sc_Tester_shift.nd (pe_lst pa_nil))
      (pss_cons (pset (i := 3) sc_Tester_shift.nd (pe_lst pa_nil))
      (pss_cons (ps_for (passes_of rfl) rfl (Zt.pi_zipM (by rfl) T.f_zip (pa_cons (pv 1) (pa_cons (pe_fld (pv 0) rfl) pa_nil))) (pg_tup rfl (pgs_cons (pgn (i := 4) sc_Tester_shift.nd) (pgs_cons (pgn (i := 5) sc_Tester_shift.nd) pgs_nil)))
      (pss_cons (pset (i := 6) sc_Tester_shift.nd (pe_lst (pa_cons (pv 4) (StX.pa_star (pe_lc (own := [("index", 7)]) (g := gName 7) (tt := tYes) rfl sc_Tester_shift.nd (pi_tup (pv 5)) (blkOk_by (N := N_Tester_shift) (sc := defScope s_Tester_shift) (by decide +kernel)) (fun _ _ _ _ _ => (pgn (i := 7) sc_Tester_shift.nd)) (fun _ _ _ _ _ => pts_nil) (fun _ _ _ _ _ => (pe_ix (show IxR _ (rIxT K) from ix_tup) (show PE _ _ (tFld K _ _) from pe_fld (pv 0) rfl) (pv 7) (fun _ _ => rfl)))) pa_nil))))
      (pss_cons (ps_expr (pe_bm PySem.F.plainAttrs_list PySem.F.slot_list_extend PySem.F.type_list_extend mt_extend (pv 2) (pa_cons (pe_slice sl_list (pv 6) po_none (po_some (pe_un un_neg pe_int))) pa_nil)))
      (pss_one (ps_expr (pe_bm PySem.F.plainAttrs_list PySem.F.slot_list_append PySem.F.type_list_append mt_append (pv 3) (pa_cons (pe_ix ix_list (pv 6) (pe_un un_neg pe_int) (fun _ _ => rfl)) pa_nil)))))))
      (pss_cons (ps_fld (pv 0) (pe_callTy cr_tuple (by rfl) T.f_tuple (by decide +kernel) (pa_cons (pv 2) pa_nil)) rfl)
      (pss_one (ps_ret (pe_callTy cr_tuple (by rfl) T.f_tuple (by decide +kernel) (pa_cons (pv 3) pa_nil))))))))), ?_⟩
  intro vs Q h
  let en_ : Addr → (CV × Dt × (List (List Int)) × (List Int)) → En := fun p_ s_ => [.ow (some p_) ((oTester K) s_), .x, .x, .x, .x, .x, .x, .x]
  refine run_m (us := (oTester K)) (eL := fun _ _ _ (_ : Unit) => []) (eN := fun _ _ _ (_ : Unit) => []) (eX := [.x, .x, .x, .x, .x, .x, .x, .x]) (en := en_) (body := fun v_ (a_ : (List Int) × Unit) => b_Tester_shift v_ a_.1) h (fun v_ a_ => Eq.refl (m_Tester_shift v_ a_.1)) (fun _ _ => ⟨_, rfl⟩) fun self_0 a_ p_ => ?_
  obtain ⟨bits_0, _⟩ := a_
  exact (show Sx P w K _ _ _ _ _ [.ow (some p_) ((oTester K) self_0), .d ((eT eI) bits_0), .u, .u, .u, .u, .u, .u] _ _ from (sx_drop (xp_callX (xa_v (ds := (fun (a_ : (List Int) × Int × Unit) => [(eT eI) a_.1, eI a_.2.1])) (v := (bits_0, ((self_0.2.2.1.length : Int), ()))) (ap_cons ep_var (ap_cons (ep_cb (ap_cons (ep_fldO T.k_Tester (T.a_Tester "chains" (by decide)) (i := 0) rfl rfl) ap_nil) rl_lenLm) ap_nil))) (fun _ => rfl) (Le.x (Le.x (Le.x (Le.x (Le.x (Le.x (Le.x (Le.x Le.nil))))))))) (fun _ => (sx_own (xo_v (po_n (np_lst ap_nil))) (fun held_3 => (show Sx P w K _ _ _ _ _ [.ow (some p_) ((oTester K) self_0), .d ((eT eI) bits_0), .ow none ((oL eI) held_3), .u, .u, .u, .u, .u] _ _ from (sx_own (xo_v (po_n (np_lst ap_nil))) (fun log_5 => (show Sx P w K _ _ _ _ _ [.ow (some p_) ((oTester K) self_0), .d ((eT eI) bits_0), .ow none ((oL eI) held_3), .ow none ((oL eI) log_5), .u, .u, .u, .u] _ _ from (sx_for (eS := (fun (v_8 : (List Int) × (List Int)) => [.ow (some p_) ((oTester K) self_0), .d ((eT eI) bits_0), .ow none ((oL eI) v_8.1), .ow none ((oL eI) v_8.2), .x, .x, .x, .u])) (v0 := (held_3, log_5)) (fun _ => ⟨rfl, (fun _ z => nomatch z), (fun _ z => nomatch z)⟩) (xi_zipN (xp_v ep_var) (xp_v (ep_fldO T.k_Tester (T.a_Tester "chains" (by decide)) (i := 0) rfl rfl))) (Le.s (Le.s (Le.s (Le.s (Le.x (Le.x (Le.x (Le.s Le.nil)))))))) (fun v_8 (bit_9 : (Int × (List Int))) => ⟨_, (ge_tup (gs_cons ge_name (gs_cons ge_name gs_nil))), (show Sx P w K _ _ _ _ _ [.ow (some p_) ((oTester K) self_0), .d ((eT eI) bits_0), .ow none ((oL eI) v_8.1), .ow none ((oL eI) v_8.2), .d (eI bit_9.1), .d ((eT eI) bit_9.2), .x, .u] _ _ from (sx_asg (xp_o (u := (oL eI)) (xo_lstStarL (xp_v ep_var) (xp_o (u := (oL eI)) (xo_lc (xi_tup (xp_v ep_var)) (fun index_10 => ⟨_, gc_name, (xt_v tp_yes), (xp_opVV (ep_fldO T.k_Tester (T.a_Tester "held" (by decide)) (i := 0) rfl rfl) ep_var rm_ixT)⟩)) (fun _ => rfl))) (fun _ => rfl)) (fun moved_14 => (show Sx P w K _ _ _ _ _ [.ow (some p_) ((oTester K) self_0), .d ((eT eI) bits_0), .ow none ((oL eI) v_8.1), .ow none ((oL eI) v_8.2), .d (eI bit_9.1), .d ((eT eI) bit_9.2), .d ((eL eI) moved_14), .u] _ _ from (sx_ext (i := 2) rfl (xo_cutL (xp_v ep_var) qo_none (qo_some (ep_is (ep_un ep_int Pw.r1_U) rfl))) (fun t_16 => (show Sx P w K _ _ _ _ _ [.ow (some p_) ((oTester K) self_0), .d ((eT eI) bits_0), .ow none ((oL eI) (v_8.1 ++ t_16)), .ow none ((oL eI) v_8.2), .d (eI bit_9.1), .d ((eT eI) bit_9.2), .d ((eL eI) moved_14), .u] _ _ from (sx_last (sx_app (i := 3) (xs := List.map eI v_8.2) rfl (xp_opVV ep_var (ep_is (ep_un ep_int Pw.r1_U) rfl) rm_ixL) (fun t_17 => (sx_app1 3 (show Sx P w K _ _ _ _ _ [.ow (some p_) ((oTester K) self_0), .d ((eT eI) bits_0), .ow none ((oL eI) (v_8.1 ++ t_16)), .ow none ((oL eI) (v_8.2 ++ [t_17])), .d (eI bit_9.1), .d ((eT eI) bit_9.2), .d ((eL eI) moved_14), .u] _ _ from (sx_end (Le.s (Le.s (Le.s (Le.s (Le.x (Le.x (Le.x (Le.s Le.nil)))))))))))))))))))))⟩) (fun w_18 => (show Sx P w K _ _ _ _ _ [.ow (some p_) ((oTester K) self_0), .d ((eT eI) bits_0), .ow none ((oL eI) w_18.1), .ow none ((oL eI) w_18.2), .x, .x, .x, .u] _ _ from (sx_freeze 2 rfl rfl (sx_fldS (i := 0) (k := 3) (n := "held") (fs := ["circuit", "version", "chains", "held"]) T.k_Tester (T.a_Tester "held" (by decide)) (xp_v (ep_tupleL ep_var)) rfl rfl (by decide +kernel) (by decide) (fun held_19 => (show Sx P w K _ _ _ _ _ [.ow (some p_) ((oTester K) (self_0.1, self_0.2.1, self_0.2.2.1, held_19)), .d ((eT eI) bits_0), .d ((eL eI) w_18.1), .ow none ((oL eI) w_18.2), .x, .x, .x, .u] _ _ from (sx_last (sx_freeze 3 rfl rfl (sx_retE (eR := en_ p_) (ye_p (en := (fun s_ => [.ow (some p_) ((oTester K) s_), .d ((eT eI) bits_0), .d ((eL eI) w_18.1), .d ((eL eI) w_18.2), .x, .x, .x, .u])) (xp_v (ep_tupleL ep_var)) rfl) (fun s_ => (Le.s (Le.x (Le.x (Le.x (Le.s (Le.s (Le.s (Le.x Le.nil))))))))) (fun _ _ => rfl))))))))))))))))))))
def b_Testerresponse (self_0 : (CV × Dt × (List (List Int)) × (List Int))) (inputs_0 : (List Int)) : R (Ctl Unit Unit (List Int)) := (R.bind (R.bind (R.ok (inputs_0, ((self_0.1.1.is.length : Int), ()))) fun t_1 => m_check_bits t_1.1 t_1.2.1) fun _ => (R.bind (R.bind (R.bind (R.ok self_0.1) fun t_7 => R.bind (R.bind (R.ok self_0.2.1) fun t_5 => R.bind (R.bind (R.bind (catR inputs_0 self_0.2.2.2) fun t_2 => R.ok ((eT eI) t_2)) fun t_3 => R.bind (R.ok ()) fun t_4 => R.ok (t_3, t_4)) fun t_6 => R.ok (t_5, t_6)) fun t_8 => R.ok (t_7, t_8)) fun t_9 => m_response t_9.1 t_9.2.1 t_9.2.2.1) fun t_10 => R.ok (Ctl.rt t_10)))
def m_Testerresponse (self_0 : (CV × Dt × (List (List Int)) × (List Int))) (inputs_0 : (List Int)) : R (List Int) := (b_Testerresponse self_0 inputs_0).fin
abbrev R_Testerresponse (K : PySem.W.Frag) : List Dt → Rs → Prop := RF K (fun (a_ : (CV × Dt × (List (List Int)) × (List Int)) × (List Int) × Unit) => [(eTester K) a_.1, (eT eI) a_.2.1]) (fun a_ => m_Testerresponse a_.1 a_.2.1) (fun (b_ : (List Int)) => .d ((eT eI) b_))
theorem l_Testerresponse (K : PySem.W.Frag) (ds : List Dt) (r : Rs) (h : R_Testerresponse K ds r) : ds.length = 2 := by
  obtain ⟨_, rfl, _⟩ := h
  rfl
abbrev N_Testerresponse : List Str := ["self", "inputs"]
theorem sc_Testerresponse : FnScope N_Testerresponse ["self", "inputs"] (defScope s_Testerresponse) := ⟨rfl, rfl, rfl, by decide +kernel, rfl, by decide +kernel, by decide +kernel⟩
theorem k_Testerresponse (T : Txt K mg) (D : Dm K (He.ga K "Tester") "_response" "Tester._response" ["self", "inputs"] s_Testerresponse)  (G__check_bits : Fx P w K mg base 4 "_check_bits" ["bits", "count"] (spR P w K (R_check_bits K))) (G_response : Fx P w K mg base 13 "response" ["circuit", "version", "pattern"] (spR P w K (R_response K))) : Mx P w K mg base 14 (He.ga K "Tester") "_response" ["self", "inputs"] (spR P w K (R_Testerresponse K)) := by
  refine Mx.ofX D sc_Testerresponse (l_Testerresponse K) fun f cdv A outer s H E hr tk => ?_
  refine ⟨_, (pss_cons (ps_expr (pe_fxS G__check_bits (hr.mono (by decide)) tk (pa_cons (pv 1) (pa_cons (pe_callB cr_len (by rfl) T.f_len PySem.boot_len (pa_cons (pe_fld (pe_fld (pv 0) rfl) rfl) pa_nil)) pa_nil))))
      (pss_one (ps_ret (pe_fxS G_response (hr.mono (by decide)) tk (pa_cons (pe_fld (pv 0) rfl) (pa_cons (pe_fld (pv 0) rfl) (pa_cons (pe_op op_catA (pv 1) (pe_fld (pv 0) rfl)) pa_nil))))))), ?_⟩
  rintro ds r ⟨⟨self_0, inputs_0, _⟩, rfl, hr⟩
  exact does_d (eX := [.x, .x]) (d := (eT eI)) (eL := fun (_ : Unit) => []) (eN := fun (_ : Unit) => []) (show Sx P w K _ _ _ _ _ [.d ((eTester K) self_0), .d ((eT eI) inputs_0)] (b_Testerresponse self_0 inputs_0) _ from (sx_drop (xp_callX (xa_v (ds := (fun (a_ : (List Int) × Int × Unit) => [(eT eI) a_.1, eI a_.2.1])) (v := (inputs_0, ((self_0.1.1.is.length : Int), ()))) (ap_cons ep_var (ap_cons (ep_cb (ap_cons (ep_fld T.k_Circuit (T.a_Circuit "inputs" (by decide)) (ep_fld T.k_Tester (T.a_Tester "circuit" (by decide)) ep_var rfl) rfl) ap_nil) rl_lenTm) ap_nil))) (fun _ => rfl) (Le.x (Le.x Le.nil))) (fun _ => (sx_last (sx_ret (xp_callX (xa_consM (da := (eCircuit K)) (xp_v (ep_fld T.k_Tester (T.a_Tester "circuit" (by decide)) ep_var rfl)) (xa_consM (da := eD) (xp_v (ep_fld T.k_Tester (T.a_Tester "version" (by decide)) ep_var rfl)) (xa_consM (da := eD) (xp_any (da := (eT eI)) (xp_opVV ep_var (ep_fld T.k_Tester (T.a_Tester "held" (by decide)) ep_var rfl) rm_catT)) xa_nil))) (fun _ => rfl) (Le.x (Le.x Le.nil))) (fun _ => rfl)))))) hr
def b_Tester_clock (self_0 : (CV × Dt × (List (List Int)) × (List Int))) (inputs_0 : (List Int)) : R (Ctl Unit Unit ((List Int) × (CV × Dt × (List (List Int)) × (List Int)))) := (R.bind (R.nox (R.bind (R.ok (inputs_0, ())) fun t_1 => ((m_Testerresponse self_0 t_1.1)).nox)) fun found_2 => (R.bind (R.ok (self_0.1.1.os.length : Int)) fun many_3 => (R.bind (R.ok (cutR found_2 (some many_3) none)) fun held_4 => (R.bind2 (R.bind (R.ok (cutR found_2 none (some many_3))) fun a_ => R.ok (a_, (self_0.1, self_0.2.1, self_0.2.2.1, held_4))) fun t_5 s_6 => R.ok (Ctl.rt (t_5, s_6))))))
def m_Tester_clock (self_0 : (CV × Dt × (List (List Int)) × (List Int))) (inputs_0 : (List Int)) : R ((List Int) × (CV × Dt × (List (List Int)) × (List Int))) := (b_Tester_clock self_0 inputs_0).fin
abbrev MM_Tester_clock (K : PySem.W.Frag) : Ow → List Dt → Dt → Ow → Prop := RM (oTester K) (fun (a_ : (List Int) × Unit) => [(eT eI) a_.1]) (fun (v_ : (CV × Dt × (List (List Int)) × (List Int))) a_ => m_Tester_clock v_ a_.1) (eT eI)
abbrev N_Tester_clock : List Str := ["self", "inputs", "found", "many"]
theorem sc_Tester_clock : FnScope N_Tester_clock ["self", "inputs"] (defScope s_Tester_clock) := ⟨rfl, rfl, rfl, by decide +kernel, rfl, by decide +kernel, by decide +kernel⟩
theorem k_Tester_clock (T : Txt K mg) (D : Dm K (He.ga K "Tester") "clock" "Tester.clock" ["self", "inputs"] s_Tester_clock)  (M_Testerresponse : Mx P w K mg base 14 (He.ga K "Tester") "_response" ["self", "inputs"] (spR P w K (R_Testerresponse K))) : Mx P w K mg base 15 (He.ga K "Tester") "clock" ["self", "inputs"] (spM P w K (MM_Tester_clock K)) := by
  refine Mx.ofSpX D sc_Tester_clock (spM_len (n := 2) fun _ => rfl) fun f cdv A outer s H E hr tk => ?_
  refine ⟨_, (pss_cons (pset (i := 2) sc_Tester_clock.nd (pe_mxS M_Testerresponse T.k_Tester (hr.mono (by decide)) tk (pv 0) (pa_cons (pv 1) pa_nil)))
      (pss_cons (pset (i := 3) sc_Tester_clock.nd (pe_callB cr_len (by rfl) T.f_len PySem.boot_len (pa_cons (pe_fld (pe_fld (pv 0) rfl) rfl) pa_nil)))
      (pss_cons (ps_fld (pv 0) (pe_slice sl_tupA (pv 2) (po_some (pv 3)) po_none) rfl)
      (pss_one (ps_ret (pe_slice sl_tupA (pv 2) po_none (po_some (pv 3)))))))), ?_⟩
  intro vs Q h
  let en_ : Addr → (CV × Dt × (List (List Int)) × (List Int)) → En := fun p_ s_ => [.ow (some p_) ((oTester K) s_), .x, .x, .x]
  refine run_m (us := (oTester K)) (eL := fun _ _ _ (_ : Unit) => []) (eN := fun _ _ _ (_ : Unit) => []) (eX := [.x, .x, .x, .x]) (en := en_) (body := fun v_ (a_ : (List Int) × Unit) => b_Tester_clock v_ a_.1) h (fun v_ a_ => Eq.refl (m_Tester_clock v_ a_.1)) (fun _ _ => ⟨_, rfl⟩) fun self_0 a_ p_ => ?_
  obtain ⟨inputs_0, _⟩ := a_
  exact (show Sx P w K _ _ _ _ _ [.ow (some p_) ((oTester K) self_0), .d ((eT eI) inputs_0), .u, .u] _ _ from (sx_asg (xp_lendI 0 rfl (fun _ => xp_noxM (xp_meth (v := self_0) ep_var (xa_v (ds := (fun (a_ : (List Int) × Unit) => [(eT eI) a_.1])) (v := (inputs_0, ())) (ap_cons ep_var ap_nil)) (fun _ => rfl) (fun _ => rfl))) (fun _ => noObj_tI)) (fun found_2 => (show Sx P w K _ _ _ _ _ [.ow (some p_) ((oTester K) self_0), .d ((eT eI) inputs_0), .d ((eT eI) found_2), .u] _ _ from (sx_asg (xp_v (ep_cb (ap_cons (ep_fld T.k_Circuit (T.a_Circuit "outputs" (by decide)) (ep_fldO T.k_Tester (T.a_Tester "circuit" (by decide)) (i := 0) rfl rfl) rfl) ap_nil) rl_lenTm)) (fun many_3 => (show Sx P w K _ _ _ _ _ [.ow (some p_) ((oTester K) self_0), .d ((eT eI) inputs_0), .d ((eT eI) found_2), .d (eI many_3)] _ _ from (sx_fldS (i := 0) (k := 3) (n := "held") (fs := ["circuit", "version", "chains", "held"]) T.k_Tester (T.a_Tester "held" (by decide)) (xp_v (ep_cutT ep_var (qo_some ep_var) qo_none)) rfl rfl (by decide +kernel) (by decide) (fun held_4 => (show Sx P w K _ _ _ _ _ [.ow (some p_) ((oTester K) (self_0.1, self_0.2.1, self_0.2.2.1, held_4)), .d ((eT eI) inputs_0), .d ((eT eI) found_2), .d (eI many_3)] _ _ from (sx_last (sx_retE (eR := en_ p_) (ye_p (en := (fun s_ => [.ow (some p_) ((oTester K) s_), .d ((eT eI) inputs_0), .d ((eT eI) found_2), .d (eI many_3)])) (xp_v (ep_cutT ep_var qo_none (qo_some ep_var))) rfl) (fun s_ => (Le.s (Le.x (Le.x (Le.x Le.nil))))) (fun _ _ => rfl)))))))))))))
def b_program_of (circuit_0 : CV) (count_0 : Int) (patterns_0 : (List (List Int))) : R (Ctl Unit Unit (List (Str × (List Int)))) := (R.bind (R.bind (R.ok (circuit_0, (count_0, ()))) fun t_1 => m_chains t_1.1 t_1.2.1) fun found_2 => (R.bind (R.ok (decide ((1000 : Int) < (patterns_0.length : Int)))) fun c_3 => if c_3 = true then (R.ex ⟨"BadTester", [], []⟩) else (R.bind (R.ok patterns_0) fun l_44 => R.bindC (R.forR l_44 () (fun (v_4 : Unit) (pattern_5 : (List Int)) => (R.bind (R.bind (R.ok (circuit_0, (((eT eI) pattern_5), ()))) fun t_6 => m_check_pattern t_6.1 t_6.2.1) fun _ => (R.ok (Ctl.nx ()))))) (fun (w_7 : Unit) => (R.bind (R.bind (ixR found_2 (0 : Int)) fun t_8 => R.ok (t_8.length : Int)) fun longest_9 => (R.bind (R.ok (circuit_0.1.is.length : Int)) fun many_10 => (R.bind (R.ok ([] : (List (Str × (List Int))))) fun program_12 => (R.bind (R.ok patterns_0) fun l_43 => R.bindC (R.forR l_43 program_12 (fun (v_13 : (List (Str × (List Int)))) (pattern_14 : (List Int)) => (R.bind (R.ok (cutR pattern_14 (some many_10) none)) fun bits_15 => (R.bind (revRg1R longest_9) fun l_30 => R.bindC (R.forR l_30 v_13 (fun (v_16 : (List (Str × (List Int)))) (place_17 : Int) => (R.bind (R.bind (R.bind (R.ok ("shift" : Str)) fun t_24 => R.bind (R.bind (R.bind (R.ok found_2) fun l_21 => (R.lcR l_21 (fun chain_18 => (R.ok true)) (fun chain_18 => (R.bind (R.ok (decide (place_17 < (chain_18.length : Int)))) fun t_20 => if t_20 = true then (R.bind (ixR chain_18 place_17) fun t_19 => (ixR bits_15 t_19)) else (R.ok (0 : Int))))).nox) fun t_22 => R.bind (R.ok ()) fun t_23 => R.ok (t_22, t_23)) fun t_25 => R.ok (t_24, t_25)) fun t_26 => R.ok (t_26.1, t_26.2.1)) fun t_27 => R.need ((List.map (eP2 eS (eT eI)) v_16).length < 100000) (R.ok (Ctl.nx (v_16 ++ [t_27])))))) (fun (w_28 : (List (Str × (List Int)))) => (R.bind (R.ok ((("clock" : Str), (cutR pattern_14 none (some many_10))) : (Str × (List Int)))) fun t_29 => R.need ((List.map (eP2 eS (eT eI)) w_28).length < 100000) (R.ok (Ctl.nx (w_28 ++ [t_29]))))))))) (fun (w_31 : (List (Str × (List Int)))) => (R.bind (R.bind (R.bind (R.bind (R.bind (R.bind (R.ok ("shift" : Str)) fun t_34 => R.bind (R.bind (repTR ([(0 : Int)] : (List Int)) count_0) fun t_32 => R.bind (R.ok ()) fun t_33 => R.ok (t_32, t_33)) fun t_35 => R.ok (t_34, t_35)) fun t_36 => R.ok (t_36.1, t_36.2.1)) fun t_37 => R.bind (R.ok ()) fun t_38 => R.ok (t_37, t_38)) fun t_39 => R.ok ([t_39.1] : (List (Str × (List Int))))) fun t_40 => R.bind (R.ok longest_9) fun t_41 => repLR t_40 t_41) fun t_42 => R.need ((w_31).length + t_42.length ≤ 100000) (R.ok (Ctl.rt (w_31 ++ t_42)))))))))))))
def m_program_of (circuit_0 : CV) (count_0 : Int) (patterns_0 : (List (List Int))) : R (List (Str × (List Int))) := (b_program_of circuit_0 count_0 patterns_0).fin
abbrev R_program_of (K : PySem.W.Frag) : List Dt → Rs → Prop := RF K (fun (a_ : CV × Int × (List (List Int)) × Unit) => [(eCircuit K) a_.1, eI a_.2.1, (eL (eT eI)) a_.2.2.1]) (fun a_ => m_program_of a_.1 a_.2.1 a_.2.2.1) (fun (b_ : (List (Str × (List Int)))) => .o ((oL (eP2 eS (eT eI))) b_))
theorem l_program_of (K : PySem.W.Frag) (ds : List Dt) (r : Rs) (h : R_program_of K ds r) : ds.length = 3 := by
  obtain ⟨_, rfl, _⟩ := h
  rfl
abbrev N_program_of : List Str := ["circuit", "count", "patterns", "found", "pattern", "longest", "many", "program", "bits", "place", "chain"]
theorem sc_program_of : FnScope N_program_of ["circuit", "count", "patterns"] (defScope s_program_of) := ⟨rfl, rfl, rfl, by decide +kernel, rfl, by decide +kernel, by decide +kernel⟩
theorem k_program_of (T : Txt K mg) (D : Dx K mg "program_of" ["circuit", "count", "patterns"] s_program_of)  (G_chains : Fx P w K mg base 2 "chains" ["circuit", "count"] (spR P w K (R_chains K))) (G_check_pattern : Fx P w K mg base 4 "check_pattern" ["circuit", "pattern"] (spR P w K (R_check_pattern K))) (X_BadTester : Xm1 K mg "BadTester" (He.ga K "BadTester")) : Fx P w K mg base 5 "program_of" ["circuit", "count", "patterns"] (spR P w K (R_program_of K)) := by
  refine Fx.ofX D sc_program_of (l_program_of K) fun f cdv A outer s H E hr tk => ?_
  refine ⟨_, (pss_cons (pset (i := 3) sc_program_of.nd (pe_fxS G_chains (hr.mono (by decide)) tk (pa_cons (pv 0) (pa_cons (pv 1) pa_nil))))
      (pss_cons (ps_if (pt_cmpR op_gt (pe_callB cr_len (by rfl) T.f_len PySem.boot_len (pa_cons (pv 2) pa_nil)) (pe_globI T.g_MOST_PATTERNS) (nomark _)) (pss_one (ps_raise rfl tk (pm_1 X_BadTester))) pss_nil)
      (pss_cons (ps_for (passes_of rfl) rfl (pi_list (pv 2)) (pgn (i := 4) sc_program_of.nd)
      (pss_one (ps_expr (pe_fxS G_check_pattern (hr.mono (by decide)) tk (pa_cons (pv 0) (pa_cons (pv 4) pa_nil))))))
      (pss_cons (pset (i := 5) sc_program_of.nd (pe_callB cr_len (by rfl) T.f_len PySem.boot_len (pa_cons (pe_ix ix_list (pv 3) pe_int (fun _ _ => rfl)) pa_nil)))
      (pss_cons (pset (i := 6) sc_program_of.nd (pe_callB cr_len (by rfl) T.f_len PySem.boot_len (pa_cons (pe_fld (pv 0) rfl) pa_nil)))
      (pss_cons (pset (i := 7) sc_program_of.nd (pe_lst pa_nil))
      (pss_cons (ps_for (passes_of rfl) rfl (pi_list (pv 2)) (pgn (i := 4) sc_program_of.nd)
      (pss_cons (pset (i := 8) sc_program_of.nd (pe_slice sl_tupA (pv 4) (po_some (pv 6)) po_none))
      (pss_cons (ps_for (passes_of rfl) rfl (pi_revR rfl T.f_reversed (prg_1 rfl T.f_range (pv 5))) (pgn (i := 9) sc_program_of.nd)
      (pss_one (ps_expr (pe_bm PySem.F.plainAttrs_list PySem.F.slot_list_append PySem.F.type_list_append mt_append (pv 7) (pa_cons (pe_tup (pa_cons pe_str (pa_cons (pe_callTy cr_tuple (by rfl) T.f_tuple (by decide +kernel) (pa_cons (pe_lc (own := [("chain", 10)]) (g := gName 10) (tt := tYes) rfl sc_program_of.nd (pi_list (pv 3)) (blkOk_by (N := N_program_of) (sc := defScope s_program_of) (by decide +kernel)) (fun _ _ _ _ _ => (pgn (i := 10) sc_program_of.nd)) (fun _ _ _ _ _ => pts_nil) (fun _ _ _ _ _ => (pe_ifExp (pt_cmpR op_lt (pv 9) (pe_callB (show CallR _ _ (rLenS K) from cr_len) (by rfl) T.f_len PySem.boot_len (pa_cons (pv 10) pa_nil)) (nomark _)) (pe_ix (show IxR _ (rIxT K) from ix_tup) (pv 8) (pe_ix (show IxR _ (rIxT K) from ix_tup) (pv 10) (pv 9) (fun _ _ => rfl)) (fun _ _ => rfl)) pe_int))) pa_nil)) pa_nil))) pa_nil)))))
      (pss_one (ps_expr (pe_bm PySem.F.plainAttrs_list PySem.F.slot_list_append PySem.F.type_list_append mt_append (pv 7) (pa_cons (pe_tup (pa_cons pe_str (pa_cons (pe_slice sl_tupA (pv 4) po_none (po_some (pv 6))) pa_nil))) pa_nil)))))))
      (pss_cons (ps_expr (pe_bm PySem.F.plainAttrs_list PySem.F.slot_list_extend PySem.F.type_list_extend mt_extend (pv 7) (pa_cons (pe_op op_rep (pe_lst (pa_cons (pe_tup (pa_cons pe_str (pa_cons (pe_op op_repA (pe_tup (pa_cons pe_int pa_nil)) (pv 1)) pa_nil))) pa_nil)) (pv 5)) pa_nil)))
      (pss_one (ps_ret (pv 7))))))))))), ?_⟩
  rintro ds r ⟨⟨circuit_0, count_0, patterns_0, _⟩, rfl, hr⟩
  exact does_o (eX := [.x, .x, .x, .x, .x, .x, .x, .x, .x, .x, .x]) (u := (oL (eP2 eS (eT eI)))) (eL := fun (_ : Unit) => []) (eN := fun (_ : Unit) => []) (show Sx P w K _ _ _ _ _ [.d ((eCircuit K) circuit_0), .d (eI count_0), .d ((eL (eT eI)) patterns_0), .u, .u, .u, .u, .u, .u, .u, .u] (b_program_of circuit_0 count_0 patterns_0) _ from (sx_asg (xp_o (u := (oL (eT eI))) (xo_callX (xa_v (ds := (fun (a_ : CV × Int × Unit) => [(eCircuit K) a_.1, eI a_.2.1])) (v := (circuit_0, (count_0, ()))) (ap_cons ep_var (ap_cons ep_var ap_nil))) (fun _ => rfl) (Le.x (Le.x (Le.x (Le.x (Le.x (Le.x (Le.x (Le.x (Le.x (Le.x (Le.x Le.nil)))))))))))) (fun _ => rfl)) (fun found_2 => (show Sx P w K _ _ _ _ _ [.d ((eCircuit K) circuit_0), .d (eI count_0), .d ((eL (eT eI)) patterns_0), .d ((eL (eT eI)) found_2), .u, .u, .u, .u, .u, .u, .u] _ _ from (sx_if (xt_v (tp_test (ep_op (ep_cb (ap_cons ep_var ap_nil) rl_lenLm) ep_int Pw.r2_B0))) (sx_raise0 (Le.x (Le.x (Le.x (Le.x (Le.x (Le.x (Le.x (Le.x (Le.x (Le.x (Le.x Le.nil)))))))))))) (sx_skip (sx_for (eS := (fun (v_4 : Unit) => [.d ((eCircuit K) circuit_0), .d (eI count_0), .d ((eL (eT eI)) patterns_0), .d ((eL (eT eI)) found_2), .x, .u, .u, .u, .u, .u, .u])) (v0 := ()) outO_ok (xi_list (xp_v ep_var)) (Le.s (Le.s (Le.s (Le.s (Le.x (Le.s (Le.s (Le.s (Le.s (Le.s (Le.s Le.nil))))))))))) (fun v_4 (pattern_5 : (List Int)) => ⟨_, ge_name, (show Sx P w K _ _ _ _ _ [.d ((eCircuit K) circuit_0), .d (eI count_0), .d ((eL (eT eI)) patterns_0), .d ((eL (eT eI)) found_2), .d ((eT eI) pattern_5), .u, .u, .u, .u, .u, .u] _ _ from (sx_last (sx_drop (xp_callX (xa_v (ds := (fun (a_ : CV × Dt × Unit) => [(eCircuit K) a_.1, eD a_.2.1])) (v := (circuit_0, (((eT eI) pattern_5), ()))) (ap_cons ep_var (ap_cons ep_var ap_nil))) (fun _ => rfl) (Le.x (Le.x (Le.x (Le.x (Le.x (Le.x (Le.x (Le.x (Le.x (Le.x (Le.x Le.nil)))))))))))) (fun _ => (sx_end (Le.s (Le.s (Le.s (Le.s (Le.x (Le.s (Le.s (Le.s (Le.s (Le.s (Le.s Le.nil))))))))))))))))⟩) (fun w_7 => (show Sx P w K _ _ _ _ _ [.d ((eCircuit K) circuit_0), .d (eI count_0), .d ((eL (eT eI)) patterns_0), .d ((eL (eT eI)) found_2), .x, .u, .u, .u, .u, .u, .u] _ _ from (sx_asg (xp_b1 (xp_opVV ep_var ep_int rm_ixL) (fun _ => rl_lenTm)) (fun longest_9 => (show Sx P w K _ _ _ _ _ [.d ((eCircuit K) circuit_0), .d (eI count_0), .d ((eL (eT eI)) patterns_0), .d ((eL (eT eI)) found_2), .x, .d (eI longest_9), .u, .u, .u, .u, .u] _ _ from (sx_asg (xp_v (ep_cb (ap_cons (ep_fld T.k_Circuit (T.a_Circuit "inputs" (by decide)) ep_var rfl) ap_nil) rl_lenTm)) (fun many_10 => (show Sx P w K _ _ _ _ _ [.d ((eCircuit K) circuit_0), .d (eI count_0), .d ((eL (eT eI)) patterns_0), .d ((eL (eT eI)) found_2), .x, .d (eI longest_9), .d (eI many_10), .u, .u, .u, .u] _ _ from (sx_own (xo_v (po_n (np_lst ap_nil))) (fun program_12 => (show Sx P w K _ _ _ _ _ [.d ((eCircuit K) circuit_0), .d (eI count_0), .d ((eL (eT eI)) patterns_0), .d ((eL (eT eI)) found_2), .x, .d (eI longest_9), .d (eI many_10), .ow none ((oL (eP2 eS (eT eI))) program_12), .u, .u, .u] _ _ from (sx_for (eS := (fun (v_13 : (List (Str × (List Int)))) => [.d ((eCircuit K) circuit_0), .d (eI count_0), .d ((eL (eT eI)) patterns_0), .d ((eL (eT eI)) found_2), .x, .d (eI longest_9), .d (eI many_10), .ow none ((oL (eP2 eS (eT eI))) v_13), .x, .x, .u])) (v0 := program_12) outO_ok (xi_list (xp_v ep_var)) (Le.s (Le.s (Le.s (Le.s (Le.s (Le.s (Le.s (Le.s (Le.x (Le.x (Le.s Le.nil))))))))))) (fun v_13 (pattern_14 : (List Int)) => ⟨_, ge_name, (show Sx P w K _ _ _ _ _ [.d ((eCircuit K) circuit_0), .d (eI count_0), .d ((eL (eT eI)) patterns_0), .d ((eL (eT eI)) found_2), .d ((eT eI) pattern_14), .d (eI longest_9), .d (eI many_10), .ow none ((oL (eP2 eS (eT eI))) v_13), .x, .x, .u] _ _ from (sx_asg (xp_v (ep_cutT ep_var (qo_some ep_var) qo_none)) (fun bits_15 => (show Sx P w K _ _ _ _ _ [.d ((eCircuit K) circuit_0), .d (eI count_0), .d ((eL (eT eI)) patterns_0), .d ((eL (eT eI)) found_2), .d ((eT eI) pattern_14), .d (eI longest_9), .d (eI many_10), .ow none ((oL (eP2 eS (eT eI))) v_13), .d ((eT eI) bits_15), .x, .u] _ _ from (sx_for (eS := (fun (v_16 : (List (Str × (List Int)))) => [.d ((eCircuit K) circuit_0), .d (eI count_0), .d ((eL (eT eI)) patterns_0), .d ((eL (eT eI)) found_2), .d ((eT eI) pattern_14), .d (eI longest_9), .d (eI many_10), .ow none ((oL (eP2 eS (eT eI))) v_16), .d ((eT eI) bits_15), .x, .u])) (v0 := v_13) outO_ok (xi_revRg1 ep_var) (Le.s (Le.s (Le.s (Le.s (Le.s (Le.s (Le.s (Le.s (Le.s (Le.s (Le.s Le.nil))))))))))) (fun v_16 (place_17 : Int) => ⟨_, ge_name, (show Sx P w K _ _ _ _ _ [.d ((eCircuit K) circuit_0), .d (eI count_0), .d ((eL (eT eI)) patterns_0), .d ((eL (eT eI)) found_2), .d ((eT eI) pattern_14), .d (eI longest_9), .d (eI many_10), .ow none ((oL (eP2 eS (eT eI))) v_16), .d ((eT eI) bits_15), .d (eI place_17), .u] _ _ from (sx_last (sx_app (i := 7) (xs := List.map (eP2 eS (eT eI)) v_16) rfl (xp_tup (xa_consM (da := eS) (xp_v ep_str) (xa_consM (da := (eT eI)) (xp_tupleL (xp_o (u := (oL eI)) (xo_lc (xi_list (xp_v ep_var)) (fun chain_18 => ⟨_, gc_name, (xt_v tp_yes), (xp_if (xt_v (tp_test (ep_op ep_var (ep_cb (ap_cons ep_var ap_nil) rl_lenTm) Pw.r2_B0))) (xp_opVM ep_var (xp_opVV ep_var ep_var rm_ixT) (fun _ => rm_ixT)) (xp_v ep_int))⟩)) (fun _ => rfl))) xa_nil)) (fun _ => rfl)) (fun t_27 => (sx_app1 7 (show Sx P w K _ _ _ _ _ [.d ((eCircuit K) circuit_0), .d (eI count_0), .d ((eL (eT eI)) patterns_0), .d ((eL (eT eI)) found_2), .d ((eT eI) pattern_14), .d (eI longest_9), .d (eI many_10), .ow none ((oL (eP2 eS (eT eI))) (v_16 ++ [t_27])), .d ((eT eI) bits_15), .d (eI place_17), .u] _ _ from (sx_end (Le.s (Le.s (Le.s (Le.s (Le.s (Le.s (Le.s (Le.s (Le.s (Le.x (Le.s Le.nil))))))))))))))))))⟩) (fun w_28 => (show Sx P w K _ _ _ _ _ [.d ((eCircuit K) circuit_0), .d (eI count_0), .d ((eL (eT eI)) patterns_0), .d ((eL (eT eI)) found_2), .d ((eT eI) pattern_14), .d (eI longest_9), .d (eI many_10), .ow none ((oL (eP2 eS (eT eI))) w_28), .d ((eT eI) bits_15), .x, .u] _ _ from (sx_last (sx_app (i := 7) (xs := List.map (eP2 eS (eT eI)) w_28) rfl (xp_v (ep_is (e := (eP2 eS (eT eI)) ((("clock" : Str), (cutR pattern_14 none (some many_10))) : (Str × (List Int)))) (ep_tup (ap_cons ep_str (ap_cons (ep_cutT ep_var qo_none (qo_some ep_var)) ap_nil)) (Nat.le_of_ble_eq_true rfl)) rfl)) (fun t_29 => (sx_app1 7 (show Sx P w K _ _ _ _ _ [.d ((eCircuit K) circuit_0), .d (eI count_0), .d ((eL (eT eI)) patterns_0), .d ((eL (eT eI)) found_2), .d ((eT eI) pattern_14), .d (eI longest_9), .d (eI many_10), .ow none ((oL (eP2 eS (eT eI))) (w_28 ++ [t_29])), .d ((eT eI) bits_15), .x, .u] _ _ from (sx_end (Le.s (Le.s (Le.s (Le.s (Le.x (Le.s (Le.s (Le.s (Le.x (Le.s (Le.s Le.nil))))))))))))))))))))))))⟩) (fun w_31 => (show Sx P w K _ _ _ _ _ [.d ((eCircuit K) circuit_0), .d (eI count_0), .d ((eL (eT eI)) patterns_0), .d ((eL (eT eI)) found_2), .x, .d (eI longest_9), .d (eI many_10), .ow none ((oL (eP2 eS (eT eI))) w_31), .x, .x, .u] _ _ from (sx_ext (i := 7) rfl (xo_repM (e := (eP2 eS (eT eI))) (xo_lst (xa_consM (da := (eP2 eS (eT eI))) (xp_tup (xa_consM (da := eS) (xp_v ep_str) (xa_consM (da := (eT eI)) (xp_opVV (ep_is (e := (eT eI) ([(0 : Int)] : (List Int))) (ep_tup (ap_cons ep_int ap_nil) (Nat.le_of_ble_eq_true rfl)) rfl) ep_var rm_repA) xa_nil)) (fun _ => rfl)) xa_nil) (fun _ => rfl)) (xp_v ep_var)) (fun t_42 => (show Sx P w K _ _ _ _ _ [.d ((eCircuit K) circuit_0), .d (eI count_0), .d ((eL (eT eI)) patterns_0), .d ((eL (eT eI)) found_2), .x, .d (eI longest_9), .d (eI many_10), .ow none ((oL (eP2 eS (eT eI))) (w_31 ++ t_42)), .x, .x, .u] _ _ from (sx_last (sx_retV (i := 7) rfl rfl)))))))))))))))))))))))))) hr
end
end CC
set_option maxHeartbeats 1000000
namespace CC
open PySem PySem.Spec PyProof.Rows L2 Qw Mw RZ
open Evl hiding ea_cons
open Pw (Dt Rp RpL Wk R2d R1d RLd RLn Kq KqL spX2 Xm Xm0 cr_int cr_min2 cr_max2 cr_list cr_tuple rTupS cr_len pe_globI pe_globS pe_globR pe_tyname)
section
variable {P : Program} {w : World} {K : PySem.W.Frag} {mg : Str → Option Value} {base : Heap}
open Mw
def m_law_draws (xs : List Int) : R Dr := .ok ⟨xs, 0, 0, 1⟩
abbrev R_law_draws (K : PySem.W.Frag) : List Dt → Rs → Prop := RF K (fun (a_ : List Int × Unit) => [eL eI a_.1]) (fun a_ => m_law_draws a_.1) (fun (b_ : Dr) => .o (drO b_))
theorem l_law_draws (K : PySem.W.Frag) (ds : List Dt) (r : Rs) (h : R_law_draws K ds r) : ds.length = 1 := by
  obtain ⟨_, rfl, _⟩ := h
  rfl
abbrev N_law_draws : List Str := ["script"]
theorem sc_law_draws : FnScope N_law_draws ["script"] (defScope s_law_draws) := ⟨rfl, rfl, rfl, by decide +kernel, rfl, by decide +kernel, by decide +kernel⟩
theorem k_law_draws (T : Txt K mg) (D : Dx K mg "_law_draws" ["script"] s_law_draws)  : Fx P w K mg base 1 "_law_draws" ["script"] (spR P w K (R_law_draws K)) := by
  refine Fx.of D sc_law_draws (l_law_draws K) fun f cdv A outer s H E hr => ?_
  refine ⟨_, (pss_one (ps_ret (pe_lst (pa_cons (pe_callTy cr_list (by rfl) T.f_list (by decide +kernel) (pa_cons (pv 0) pa_nil)) (pa_cons pe_int (pa_cons pe_int (pa_cons pe_int pa_nil))))))), ?_⟩
  rintro ds r ⟨⟨xs, _⟩, rfl, hr⟩
  rw [show r = .o (drO ⟨xs, 0, 0, 1⟩) from hr]
  exact se_ro (eo_p (po_n (np_lst (ap_cons (ep_new (np_cb (ap_cons ep_var ap_nil) Pw.rn_list)) (ap_cons ep_int (ap_cons ep_int (ap_cons ep_int ap_nil)))))))
def m_law_draw (d : Dr) (n : Int) : R (Int × Dr) := drawR d n
abbrev M_law_draw : Ow → List Dt → Dt → Ow → Prop := RM drO (fun (a_ : Int × Unit) => [eI a_.1]) (fun (v_ : Dr) a_ => m_law_draw v_ a_.1) eI
abbrev N_law_draw : List Str := ["draws", "limit", "cell", "value"]
theorem sc_law_draw : FnScope N_law_draw ["draws", "limit"] (defScope s_law_draw) := ⟨rfl, rfl, rfl, by decide +kernel, rfl, by decide +kernel, by decide +kernel⟩
theorem k_law_draw (T : Txt K mg) (D : Dx K mg "_law_draw" ["draws", "limit"] s_law_draw)  : Fx P w K mg base 1 "_law_draw" ["draws", "limit"] (spM P w K M_law_draw) := by
  refine Fx.ofSp D sc_law_draw (spM_len (n := 2) fun _ => rfl) fun f cdv A outer s H E hr => ?_
  refine ⟨_, (pss_cons (ps_if (PW.pt (pw_and (pt_cmpR op_eq (pe_ix ix_list (pv 0) pe_int (fun _ _ => rfl)) pe_int (nomark _)) (pw_and1 (pt_cmpR op_lt (pe_ix ix_list (pv 0) pe_int (fun _ _ => rfl)) (pe_callB cr_len (by rfl) T.f_len PySem.boot_len (pa_cons (pe_ix ix_list (pv 0) pe_int (fun _ _ => rfl)) pa_nil)) (nomark _))))) (pss_cons (pset (i := 2) sc_law_draw.nd (pe_ix ix_list (pe_ix ix_list (pv 0) pe_int (fun _ _ => rfl)) (pe_ix ix_list (pv 0) pe_int (fun _ _ => rfl)) (fun _ _ => rfl)))
      (pss_cons (ps_asg (pe_op op_add (pe_ix ix_list (pv 0) pe_int (fun _ _ => rfl)) pe_int) (pg_sub (pv 0) pe_int set_list))
      (pss_cons (ps_if (pt_cmpR op_ge (pv 2) (pe_op op_pow pe_int pe_int) (nomark _)) (pss_one (ps_asg (pv 2) (pg_sub (pv 0) pe_int set_list))) pss_nil)
      (pss_one (ps_asg (pe_op op_mod (pe_callTy cr_int (by rfl) T.f_int (by decide +kernel) (pa_cons (pe_op op_add (pe_op op_add (pe_op op_mul (pe_ix ix_list (pv 0) pe_int (fun _ _ => rfl)) pe_int) (pv 2)) pe_int) pa_nil)) pe_int) (pg_sub (pv 0) pe_int set_list)))))) pss_nil)
      (pss_cons (ps_if (pt_cmpR op_gt (pe_ix ix_list (pv 0) pe_int (fun _ _ => rfl)) pe_int (nomark _)) (pss_cons (pset (i := 3) sc_law_draw.nd (pe_op op_mod (pe_callTy cr_int (by rfl) T.f_int (by decide +kernel) (pa_cons (pe_ix ix_list (pv 0) pe_int (fun _ _ => rfl)) pa_nil)) (pv 1)))
      (pss_cons (ps_asg (pe_op op_fdiv (pe_ix ix_list (pv 0) pe_int (fun _ _ => rfl)) (pv 1)) (pg_sub (pv 0) pe_int set_list))
      (pss_one (ps_ret (pv 3))))) pss_nil)
      (pss_cons (ps_asg (pe_op op_mod (pe_callTy cr_int (by rfl) T.f_int (by decide +kernel) (pa_cons (pe_op op_add (pe_op op_mul (pe_ix ix_list (pv 0) pe_int (fun _ _ => rfl)) pe_int) pe_int) pa_nil)) pe_int) (pg_sub (pv 0) pe_int set_list))
      (pss_one (ps_ret (pe_op op_mod (pe_callTy cr_int (by rfl) T.f_int (by decide +kernel) (pa_cons (pe_op op_fdiv (pe_ix ix_list (pv 0) pe_int (fun _ _ => rfl)) pe_int) pa_nil)) (pv 1))))))), ?_⟩
  intro vs Q h
  refine run_m (us := drO) (eL := fun _ _ _ (_ : Unit) => []) (eN := fun _ _ _ (_ : Unit) => []) (eX := [.x, .x, .x, .x]) (en := fun p s => [.ow (some p) (drO s), .x, .x, .x]) (body := fun v a => R.need (0 < a.1 ∧ a.1 < 1073741824) (.ok (.rt (drV v a.1, drN v a.1)))) h (fun v a => ?_) (fun _ _ => ⟨_, rfl⟩) fun d a p => ?_
  · unfold m_law_draw drawR R.need
    split <;> rfl
  obtain ⟨n, _⟩ := a
  show Sx P w K _ _ _ _ _ [.ow (some p) (drO d), .d (.int n), .u, .u] (R.need (0 < n ∧ n < 1073741824) _) _
  unfold R.need
  split
  · rename_i hn
    show Se P w K _ [.ow (some p) (drO d), .d (.int n), .u, .u] (.rte (.int (drV d n)) [.ow (some p) (drO (drN d n)), .x, .x, .x])
    have r1 : ∀ {env : En} {d : Dr}, env[0]? = some (.ow (some p) (drO d)) → Ep P w K (tOp (rIxL K) (tVar 0) (tC (.int 1))) env (.int d.i) := fun h => ep_ixO h ep_int rfl rfl
    have r2 : ∀ {env : En} {d : Dr}, env[0]? = some (.ow (some p) (drO d)) → Ep P w K (tOp (rIxL K) (tVar 0) (tC (.int 2))) env (.int d.r) := fun h => ep_ixO h ep_int rfl rfl
    have r3 : ∀ {env : En} {d : Dr}, env[0]? = some (.ow (some p) (drO d)) → Ep P w K (tOp (rIxL K) (tVar 0) (tC (.int 3))) env (.int d.s) := fun h => ep_ixO h ep_int rfl rfl
    have r0 : ∀ {env : En} {d : Dr}, env[0]? = some (.ow (some p) (drO d)) → Ep P w K (tOp (rIxL K) (tVar 0) (tC (.int 0))) env (.lst (d.xs.map .int)) := fun h => ep_ixO h ep_int rfl rfl
    refine se_seq (env1 := [.ow (some p) (drO (drStep d)), .d (.int n), .x, .u]) ?_ ?_
    · refine se_if (b := decide (d.r = 0) && decide ((d.i : Int) < ((d.xs.map Dt.int).length : Int))) (te_p (tp_and (tp_test (ep_op (r2 (d := d) rfl) ep_int Pw.r2_eqI)) fun _ => tp_test (ep_op (r1 (d := d) rfl) (ep_cb (ap_cons (r0 (d := d) rfl) ap_nil) Pw.rl_len) Pw.r2_B0))) (fun hb => ?_) (fun hb => ?_)
      · simp only [Bool.and_eq_true, decide_eq_true_eq, List.length_map] at hb
        obtain ⟨h1, h2⟩ := hb
        have h2 : d.i < d.xs.length := by omega
        have hc : drStep d = ⟨d.xs, d.i + 1, if (10 : Int) ^ (18 : Int).toNat ≤ d.xs.getD d.i 0 then d.xs.getD d.i 0 else d.r, (d.s * 48271 + d.xs.getD d.i 0 + 13) % 2147483647⟩ := if_pos ⟨h1, h2⟩
        rw [hc]
        generalize hcell : d.xs.getD d.i 0 = cell
        refine se_seq (se_asg (d := .int cell) (ee_p (ep_op (r0 (d := d) rfl) (r1 (d := d) rfl) (Pw.r2_ixL (j := d.i) (Pw.ixN_at (by omega) (by rw [List.length_map]; omega)) (by rw [List.getElem?_map, Pw.itemD (l := d.xs) 0 h2, hcell]; rfl))))) ?_
        refine se_seq (env1 := [.ow (some p) (drO ⟨d.xs, d.i + 1, d.r, d.s⟩), .d (.int n), .d (.int cell), .u]) (se_is (se_setL (xs := [.lst (d.xs.map .int), .int (d.i : Int), .int d.r, .int d.s]) (n := 1) (d := .int ((d.i + 1 : Nat) : Int)) (ee_p (ep_is (ep_op (r1 (d := d) rfl) ep_int Pw.r2_I0) (by simp))) (ee_p ep_int) rfl rfl) rfl) ?_
        refine se_seq (env1 := [.ow (some p) (drO ⟨d.xs, d.i + 1, if (10 : Int) ^ (18 : Int).toNat ≤ cell then cell else d.r, d.s⟩), .d (.int n), .d (.int cell), .u]) ?_ ?_
        · refine se_if (b := decide ((10 : Int) ^ (18 : Int).toNat ≤ cell)) (te_p (tp_test (ep_op ep_var (ep_op ep_int ep_int (Pw.r2_I (show CPow _ _ from ⟨by decide, by decide, by decide⟩))) Pw.r2_B0))) (fun hb => ?_) (fun hb => ?_)
          · rw [if_pos (of_decide_eq_true hb)]
            exact se_is (se_setL (xs := [.lst (d.xs.map .int), .int ((d.i + 1 : Nat) : Int), .int d.r, .int d.s]) (n := 2) (ee_p ep_var) (ee_p ep_int) rfl rfl) rfl
          · rw [if_neg (of_decide_eq_false hb)]
            exact se_next
        · generalize (if (10 : Int) ^ (18 : Int).toNat ≤ cell then cell else d.r) = r'
          exact se_le (se_is (se_setL (xs := [.lst (d.xs.map .int), .int ((d.i + 1 : Nat) : Int), .int r', .int d.s]) (n := 3) (ee_p (ep_op (ep_cb (ap_cons (ep_op (ep_op (ep_op (r3 (d := ⟨d.xs, d.i + 1, r', d.s⟩) rfl) ep_int (Pw.r2_I (show CMul _ _ from Or.inr ⟨by omega, by omega⟩))) ep_var Pw.r2_I0) ep_int Pw.r2_I0) ap_nil) Pw.rl_int) ep_int (Pw.r2_I (by omega)))) (ee_p ep_int) rfl rfl) rfl) (Le.s (Le.s (Le.x (Le.s Le.nil))))
      · have hc : drStep d = d := if_neg fun z => by
          have : (decide (d.r = 0) && decide ((d.i : Int) < ((d.xs.map Dt.int).length : Int))) = true := by
            simp only [Bool.and_eq_true, decide_eq_true_eq, List.length_map]
            exact ⟨z.1, by omega⟩
          rw [hb] at this
          cases this
        rw [hc]
        exact se_le se_next (Le.s (Le.s (Le.x (Le.s Le.nil))))
    · unfold drV drN
      generalize drStep d = e
      refine se_when (b := decide (0 < e.r)) (te_p (tp_test (ep_op (r2 (d := e) rfl) ep_int Pw.r2_B0))) (fun hb => ?_) (fun hb => ?_)
      · rw [if_pos (of_decide_eq_true hb), if_pos (of_decide_eq_true hb)]
        refine se_seqF ?_
        refine se_seq (se_asg (ee_p (ep_op (ep_cb (ap_cons (r2 (d := e) rfl) ap_nil) Pw.rl_int) ep_var (Pw.r2_I hn.1)))) ?_
        refine se_seq (env1 := [.ow (some p) (drO ⟨e.xs, e.i, e.r / n, e.s⟩), .d (.int n), .x, .d (.int (e.r % n))]) (se_is (se_setL (xs := [.lst (e.xs.map .int), .int (e.i : Int), .int e.r, .int e.s]) (n := 2) (ee_p (ep_op (r2 (d := e) rfl) ep_var (Pw.r2_I (show CDiv _ _ from hn)))) (ee_p ep_int) rfl rfl) rfl) ?_
        exact se_rteL (se_rte (ee_p ep_var)) (Le.s (Le.x (Le.x (Le.x Le.nil))))
      · rw [if_neg (of_decide_eq_false hb), if_neg (of_decide_eq_false hb)]
        refine se_seq (env1 := [.ow (some p) (drO ⟨e.xs, e.i, e.r, (e.s * 69621 + 7) % 2147483629⟩), .d (.int n), .x, .u]) (se_is (se_setL (xs := [.lst (e.xs.map .int), .int (e.i : Int), .int e.r, .int e.s]) (n := 3) (ee_p (ep_op (ep_cb (ap_cons (ep_op (ep_op (r3 (d := e) rfl) ep_int (Pw.r2_I (show CMul _ _ from Or.inr ⟨by omega, by omega⟩))) ep_int Pw.r2_I0) ap_nil) Pw.rl_int) ep_int (Pw.r2_I (by omega)))) (ee_p ep_int) rfl rfl) rfl) ?_
        exact se_rteL (se_rte (ee_p (ep_op (ep_cb (ap_cons (ep_op (r3 (d := ⟨e.xs, e.i, e.r, (e.s * 69621 + 7) % 2147483629⟩) rfl) ep_int (Pw.r2_I (show CDiv _ _ from ⟨by omega, by omega⟩))) ap_nil) Pw.rl_int) ep_var (Pw.r2_I hn.1)))) (Le.s (Le.x (Le.x (Le.x Le.nil))))
  · trivial
abbrev R_law_same (n_ : Nat) (K : PySem.W.Frag) : List Dt → Rs → Prop := RF K (fun (a_ : Dt × Dt × Unit) => [a_.1, a_.2.1]) (fun a_ => sameN n_ a_.1 a_.2.1) (fun b_ => .d (.bl b_))
theorem l_law_same (n_ : Nat) (K : PySem.W.Frag) (ds : List Dt) (r : Rs) (h : R_law_same n_ K ds r) : ds.length = 2 := by
  obtain ⟨_, rfl, _⟩ := h
  rfl
theorem same_head {P : Program} {w : World} {K : PySem.W.Frag} {s : TS} {E : XK} {n : Nat} {a e : Dt} {r : Rs} (hb : ∀ b, sameN n a e = .ok b → Se P w K s [.d a, .d e, .u] (.rt (.bl b)))
    (hr : Got K (sameN n a e) (fun b => .d (.bl b)) r) : Does P w K E s [.d a, .d e, .u] r := by
  cases h : sameN n a e with
  | ok b =>
    rw [h] at hr
    rw [show r = .d (.bl b) from hr]
    exact .inl (hb b h)
  | ex x => exact absurd h (sameN_ne _ _ _ _)
  | no => rw [h] at hr; exact False.elim hr
theorem need_ok {α : Type} {c : Prop} [Decidable c] {m : R α} {a : α} (h : R.need c m = .ok a) : c ∧ m = .ok a := by
  unfold R.need at h
  split at h
  · exact ⟨by assumption, h⟩
  · cases h
abbrev N_law_same : List Str := ["actual", "expected", "k"]
theorem sc_law_same : FnScope N_law_same ["actual", "expected"] (defScope s_law_same) := ⟨rfl, rfl, rfl, by decide +kernel, rfl, by decide +kernel, by decide +kernel⟩
theorem k_law_same (n_ : Nat) (T : Txt K mg) (D : Dx K mg "_law_same" ["actual", "expected"] s_law_same)  (G__law_same : Fx P w K mg base (n_ + 1) "_law_same" ["actual", "expected"] (spR P w K (R_law_same n_ K))) : Fx P w K mg base (n_ + 2) "_law_same" ["actual", "expected"] (spR P w K (R_law_same (n_ + 1) K)) := by
  refine Fx.of D sc_law_same (l_law_same (n_ + 1) K) fun f cdv A outer s H E hr => ?_
  refine ⟨_, (pss_cons (ps_if (pt_val (pe_callB call_isi (by rfl) T.f_isinstance (by decide +kernel) (pa_cons (pv 1) (pa_cons (pe_tyname (n := "tuple") T.f_tuple) pa_nil)))) (pss_cons (ps_if (PW.pt (pw_or (pt_not (pt_val (pe_callB call_isi (by rfl) T.f_isinstance (by decide +kernel) (pa_cons (pv 0) (pa_cons (pe_tyname (n := "tuple") T.f_tuple) pa_nil))))) (pw_or1 (pt_cmpR op_ne (pe_callB cr_len (by rfl) T.f_len PySem.boot_len (pa_cons (pv 0) pa_nil)) (pe_callB cr_len (by rfl) T.f_len PySem.boot_len (pa_cons (pv 1) pa_nil)) (nomark _))))) (pss_one (ps_ret pe_bl)) pss_nil)
      (pss_cons (ps_for PassesOwn.never rfl (pi_range1 rfl T.f_range (pa_cons (pe_callB cr_len (by rfl) T.f_len PySem.boot_len (pa_cons (pv 1) pa_nil)) pa_nil)) (pgn (i := 2) sc_law_same.nd)
      (pss_one (ps_if (pt_not (pt_val (pe_fx G__law_same (hr.mono (by omega)) (pa_cons (pe_ix ix_tup (pv 0) (pv 2) (fun _ _ => rfl)) (pa_cons (pe_ix ix_tup (pv 1) (pv 2) (fun _ _ => rfl)) pa_nil))))) (pss_one (ps_ret pe_bl)) pss_nil)))
      (pss_one (ps_ret pe_bl)))) pss_nil)
      (pss_cons (ps_if (pt_val (pe_callB call_isi (by rfl) T.f_isinstance (by decide +kernel) (pa_cons (pv 1) (pa_cons (pe_tyname (n := "list") T.f_list) pa_nil)))) (pss_one (ps_ret (pe_and (pe_callB call_isi (by rfl) T.f_isinstance (by decide +kernel) (pa_cons (pv 0) (pa_cons (pe_tyname (n := "list") T.f_list) pa_nil))) (pe_one (pe_fx G__law_same (hr.mono (by omega)) (pa_cons (pe_callTy cr_tuple (by rfl) T.f_tuple (by decide +kernel) (pa_cons (pv 0) pa_nil)) (pa_cons (pe_callTy cr_tuple (by rfl) T.f_tuple (by decide +kernel) (pa_cons (pv 1) pa_nil)) pa_nil))))))) pss_nil)
      (pss_cons (ps_if (pt_val (pe_callB call_isi (by rfl) T.f_isinstance (by decide +kernel) (pa_cons (pv 1) (pa_cons (pe_tyname (n := "str") T.f_str) pa_nil)))) (pss_one (ps_ret (pe_and (pe_callB call_isi (by rfl) T.f_isinstance (by decide +kernel) (pa_cons (pv 0) (pa_cons (pe_tyname (n := "str") T.f_str) pa_nil))) (pe_one (pe_cmpR op_eq (pv 0) (pv 1) (nomark _)))))) pss_nil)
      (pss_cons (ps_if (pt_cmpR op_isN1 (pv 1) pe_non (nomark _)) (pss_one (ps_ret (pe_cmpR op_isN1 (pv 0) pe_non (nomark _)))) pss_nil)
      (pss_cons (ps_if (PW.pt (pw_or (pt_val (pe_callB call_isi (by rfl) T.f_isinstance (by decide +kernel) (pa_cons (pv 1) (pa_cons (pe_tyname (n := "bool") T.f_bool) pa_nil)))) (pw_or1 (pt_val (pe_callB call_isi (by rfl) T.f_isinstance (by decide +kernel) (pa_cons (pv 0) (pa_cons (pe_tyname (n := "bool") T.f_bool) pa_nil))))))) (pss_one (ps_ret (pe_and (pe_callB call_isi (by rfl) T.f_isinstance (by decide +kernel) (pa_cons (pv 1) (pa_cons (pe_tyname (n := "bool") T.f_bool) pa_nil))) (pe_and (pe_callB call_isi (by rfl) T.f_isinstance (by decide +kernel) (pa_cons (pv 0) (pa_cons (pe_tyname (n := "bool") T.f_bool) pa_nil))) (pe_one (pe_cmpR op_eq (pv 0) (pv 1) (nomark _))))))) pss_nil)
      (pss_one (ps_ret (pe_and (pe_callB call_isi (by rfl) T.f_isinstance (by decide +kernel) (pa_cons (pv 0) (pa_cons (pe_tyname (n := "int") T.f_int) pa_nil))) (pe_one (pe_cmpR op_eq (pv 0) (pv 1) (nomark _))))))))))), ?_⟩
  rintro ds r ⟨⟨a, e, _⟩, rfl, hr⟩
  refine same_head (n := n_ + 1) (fun b hb => ?_) hr
  have ii : ∀ {env : En} {i : Nat} {d : Dt} {t : String} {c : Bool}, env[i]? = some (.d d) → RLd K (rIsi K) [d, .ty t] (.bl c) → Ep P w K (tCB (rIsi K) (tCons (tVar i) (tCons (tC (.ty t)) tNil))) env (.bl c) := fun h hr => ep_cb (ap_cons (ep_var h) (ap_cons ep_ty ap_nil)) hr
  cases e with
  | tup es =>
    refine se_when (b := true) (te_p (tp_B (ii rfl (Pw.rl_isTup rfl)))) (fun _ => ?_) (fun z => nomatch z)
    refine se_seqF ?_
    have other : ∀ {tt2 : TT} {s2 : TS}, (Pw.tyD a).isSome = true → Pw.isTp a = false → b = false → Se P w K (tSeq (tIfS (tOr (tNot (tB (tCB (rIsi K) (tCons (tVar 0) (tCons (tC (.ty "tuple")) tNil))))) tt2) (tRet (tC (.bl false))) tNext) s2) [.d a, .d (.tup es), .u] (.rt (.bl b)) := fun {tt2 s2} h1 h2 h3 => by
      subst h3
      exact se_when (b := true) (te_p (tp_or (a := true) (b := true) (tp_is (tp_not (tp_B (ii rfl (Pw.rl_isTup h1)))) (by rw [h2]; rfl)) (fun z => nomatch z))) (fun _ => se_seqF (se_ret (ee_p ep_bl))) (fun z => nomatch z)
    cases a with
    | tup as =>
      simp only [sameN] at hb
      refine se_when (b := !decide ((as.length : Int) = es.length)) (te_p (tp_is (tp_or (a := false) (tp_not (a := true) (tp_B (ii rfl (Pw.rl_isTup rfl)))) fun _ => tp_test (ep_op (ep_cb (ap_cons ep_var ap_nil) Pw.rl_lenT) (ep_cb (ap_cons ep_var ap_nil) Pw.rl_lenT) Pw.r2_neI)) (Bool.false_or _))) (fun h => ?_) (fun h => ?_)
      · rw [if_neg (by intro z; rw [z] at h; simp at h)] at hb
        cases hb
        exact se_seqF (se_ret (ee_p ep_bl))
      · have hl : as.length = es.length := by
          simp at h
          omega
        rw [if_pos hl] at hb
        obtain ⟨⟨h1, h2⟩, hb⟩ := need_ok hb
        cases hb
        have at1 : ∀ k : Nat, k < es.length → as[k]? = some (as.getD k .non) ∧ es[k]? = some (es.getD k .non) := fun k hk => ⟨Pw.itemD _ (by omega), Pw.itemD _ hk⟩
        have mem : ∀ k : Nat, k < es.length → (as.getD k .non, es.getD k .non) ∈ as.zip es := fun k hk => List.mem_of_getElem? (i := k) (by rw [List.getElem?_zip_eq_some]; exact at1 k hk)
        have okk : ∀ k : Nat, k < es.length → ∃ c, sameN n_ (as.getD k .non) (es.getD k .non) = .ok c := fun k hk => by
          have := List.all_eq_true.mp h2 _ (mem k hk)
          cases q : sameN n_ (as.getD k .non) (es.getD k .non) with
          | ok c => exact ⟨c, rfl⟩
          | ex x => rw [q] at this; cases this
          | no => rw [q] at this; cases this
        refine se_first (List.range es.length) (fun i : Nat => Dt.int (i : Int)) (fun k => !(sameN n_ (as.getD k .non) (es.getD k .non)).isTrue) (fun _ => .bl false) (by
          have := ip_rng1 (P := P) (w := w) (K := K) (env := [.d (.tup as), .d (.tup es), .u]) (tA := tCons (tCB (rLenS K) (tCons (tVar 1) tNil)) tNil) (n := (es.length : Int)) (ap_cons (ep_cb (ap_cons ep_var ap_nil) Pw.rl_lenT) ap_nil) (by omega)
          rw [Pw.rangeD_nat] at this
          exact this) [.d (.tup as), .d (.tup es), .x] (Le.s (Le.s (Le.x Le.nil))) (fun k hk => ?_) (fun hf => ?_) (fun k hf => ?_)
        · have hk : k < es.length := by simpa using hk
          obtain ⟨c, hc⟩ := okk k hk
          have call : Te P w K (tNot (tB (tCall (spR P w K (R_law_same n_ K)) [] E0 (tCons (tOp (rIxT K) (tVar 0) (tVar 2)) (tCons (tOp (rIxT K) (tVar 1) (tVar 2)) tNil))))) [.d (.tup as), .d (.tup es), .d (.int (k : Int))] (!c) [.d (.tup as), .d (.tup es), .d (.int (k : Int))] :=
            te_p (tp_not (tp_B (ep_call (ap_cons (ep_op ep_var ep_var (Pw.r2_ixT (Pw.ixN_at (by omega) (by omega)) (by rw [Int.toNat_natCast]; exact (at1 k hk).1))) (ap_cons (ep_op ep_var ep_var (Pw.r2_ixT (Pw.ixN_at (by omega) (by omega)) (by rw [Int.toNat_natCast]; exact (at1 k hk).2))) ap_nil)) ⟨(as.getD k .non, es.getD k .non, ()), rfl, by simp only [hc]; rfl⟩)))
          refine ⟨_, ge_name, fun hp => ?_, fun hp => ?_⟩
          · have : c = false := by rw [hc] at hp; cases c <;> first | rfl | cases hp
            subst this
            exact se_if (b := true) call (fun _ => se_ret (ee_p ep_bl)) (fun z => nomatch z)
          · have : c = true := by rw [hc] at hp; cases c <;> first | rfl | cases hp
            subst this
            exact se_nc (se_le (se_if (b := false) call (fun z => nomatch z) (fun _ => se_next)) (Le.s (Le.s (Le.x Le.nil))))
        · have : ((as.zip es).all fun p => (sameN n_ p.1 p.2).isTrue) = true := List.all_eq_true.mpr fun p hp => by
            obtain ⟨k, hk⟩ := List.getElem?_of_mem hp
            rw [List.getElem?_zip_eq_some] at hk
            have hlt := (List.getElem?_eq_some_iff.mp hk.2).1
            have := List.find?_eq_none.mp hf k (by simpa using hlt)
            have e1 := (at1 k hlt).1.symm.trans hk.1
            have e2 := (at1 k hlt).2.symm.trans hk.2
            rw [← Option.some.inj e1, ← Option.some.inj e2]
            simpa using this
          rw [this]
          exact se_ret (ee_p ep_bl)
        · have h3 := List.find?_some hf
          have hk : k < es.length := by simpa using List.mem_of_find?_eq_some hf
          have : ((as.zip es).all fun p => (sameN n_ p.1 p.2).isTrue) = false := by
            rw [List.all_eq_false]
            exact ⟨_, mem k hk, by simpa using h3⟩
          rw [this]
    | _ => exact other (need_ok hb).1 rfl (R.ok.inj (need_ok hb).2).symm
  | lst es =>
    refine se_when (b := false) (te_p (tp_B (ii rfl (Pw.rl_isTup rfl)))) (fun z => nomatch z) (fun _ => ?_)
    refine se_when (b := true) (te_p (tp_B (ii rfl (Pw.rl_isList rfl)))) (fun _ => ?_) (fun z => nomatch z)
    refine se_seqF (se_ret (ee_p ?_))
    cases a with
    | lst as => exact ep_is (ep_and (a := true) (ii rfl (Pw.rl_isList rfl)) fun _ => ep_call (d := .bl b) (ap_cons (ep_cb (ap_cons ep_var ap_nil) Pw.rl_tup) (ap_cons (ep_cb (ap_cons ep_var ap_nil) Pw.rl_tup) ap_nil)) ⟨(.tup as, .tup es, ()), rfl, by simp only [show sameN n_ (.tup as) (.tup es) = .ok b from hb]; rfl⟩) (by simp)
    | _ => exact ep_is (ep_and (a := false) (b := true) (ii rfl (Pw.rl_isList (need_ok hb).1)) (fun z => nomatch z)) (by rw [← R.ok.inj (need_ok hb).2]; rfl)
  | str x =>
    refine se_when (b := false) (te_p (tp_B (ii rfl (Pw.rl_isTup rfl)))) (fun z => nomatch z) (fun _ => ?_)
    refine se_when (b := false) (te_p (tp_B (ii rfl (Pw.rl_isList rfl)))) (fun z => nomatch z) (fun _ => ?_)
    refine se_when (b := true) (te_p (tp_B (ii rfl (Pw.rl_isStr rfl)))) (fun _ => ?_) (fun z => nomatch z)
    refine se_seqF (se_ret (ee_p ?_))
    cases a with
    | str y => exact ep_is (ep_and (a := true) (ii rfl (Pw.rl_isStr rfl)) fun _ => ep_op ep_var ep_var Pw.r2_eqS) (by rw [← R.ok.inj hb]; rfl)
    | _ => exact ep_is (ep_and (a := false) (b := true) (ii rfl (Pw.rl_isStr (need_ok hb).1)) (fun z => nomatch z)) (by rw [← R.ok.inj (need_ok hb).2]; rfl)
  | non =>
    refine se_when (b := false) (te_p (tp_B (ii rfl (Pw.rl_isTup rfl)))) (fun z => nomatch z) (fun _ => ?_)
    refine se_when (b := false) (te_p (tp_B (ii rfl (Pw.rl_isList rfl)))) (fun z => nomatch z) (fun _ => ?_)
    refine se_when (b := false) (te_p (tp_B (ii rfl (Pw.rl_isStr rfl)))) (fun z => nomatch z) (fun _ => ?_)
    refine se_when (b := true) (te_p (tp_test (b := true) (ep_isN (d := .non) ep_var))) (fun _ => ?_) (fun z => nomatch z)
    cases hb
    exact se_seqF (se_ret (ee_p (ep_isN (d := a) ep_var)))
  | bl c =>
    refine se_when (b := false) (te_p (tp_B (ii rfl (Pw.rl_isTup rfl)))) (fun z => nomatch z) (fun _ => ?_)
    refine se_when (b := false) (te_p (tp_B (ii rfl (Pw.rl_isList rfl)))) (fun z => nomatch z) (fun _ => ?_)
    refine se_when (b := false) (te_p (tp_B (ii rfl (Pw.rl_isStr rfl)))) (fun z => nomatch z) (fun _ => ?_)
    refine se_when (b := false) (te_p (tp_test (b := false) (ep_isN (d := .bl c) ep_var))) (fun z => nomatch z) (fun _ => ?_)
    refine se_when (b := true) (te_p (tp_or (a := true) (b := true) (tp_B (ii rfl (Pw.rl_isBool rfl))) (fun z => nomatch z))) (fun _ => ?_) (fun z => nomatch z)
    refine se_seqF (se_ret (ee_p ?_))
    cases a with
    | bl y => exact ep_is (ep_and (a := true) (ii rfl (Pw.rl_isBool rfl)) fun _ => ep_and (a := true) (ii rfl (Pw.rl_isBool rfl)) fun _ => ep_op ep_var ep_var r2_eqB) (by rw [← R.ok.inj hb]; rfl)
    | _ => exact ep_is (ep_and (a := true) (ii rfl (Pw.rl_isBool rfl)) fun _ => ep_and (a := false) (b := true) (ii rfl (Pw.rl_isBool (need_ok hb).1)) (fun z => nomatch z)) (by rw [← R.ok.inj (need_ok hb).2]; rfl)
  | int i =>
    refine se_when (b := false) (te_p (tp_B (ii rfl (Pw.rl_isTup rfl)))) (fun z => nomatch z) (fun _ => ?_)
    refine se_when (b := false) (te_p (tp_B (ii rfl (Pw.rl_isList rfl)))) (fun z => nomatch z) (fun _ => ?_)
    refine se_when (b := false) (te_p (tp_B (ii rfl (Pw.rl_isStr rfl)))) (fun z => nomatch z) (fun _ => ?_)
    refine se_when (b := false) (te_p (tp_test (b := false) (ep_isN (d := .int i) ep_var))) (fun z => nomatch z) (fun _ => ?_)
    cases a with
    | bl y =>
      refine se_when (b := true) (te_p (tp_or (a := false) (b := true) (tp_B (ii rfl (Pw.rl_isBool rfl))) (fun _ => tp_B (ii rfl (Pw.rl_isBool rfl))))) (fun _ => ?_) (fun z => nomatch z)
      exact se_seqF (se_ret (ee_p (ep_is (ep_and (a := false) (b := true) (ii rfl (Pw.rl_isBool rfl)) (fun z => nomatch z)) (by rw [← R.ok.inj (need_ok hb).2]; rfl))))
    | int y =>
      refine se_when (b := false) (te_p (tp_or (a := false) (b := false) (tp_B (ii rfl (Pw.rl_isBool rfl))) (fun _ => tp_B (ii rfl (Pw.rl_isBool rfl))))) (fun z => nomatch z) (fun _ => ?_)
      exact se_ret (ee_p (ep_is (ep_and (a := true) (ii rfl (Pw.rl_isInt rfl)) fun _ => ep_op ep_var ep_var Pw.r2_eqI) (by rw [← R.ok.inj hb]; rfl)))
    | _ =>
      refine se_when (b := false) (te_p (tp_or (a := false) (b := false) (tp_B (ii rfl (Pw.rl_isBool rfl))) (fun _ => tp_B (ii rfl (Pw.rl_isBool (need_ok hb).1))))) (fun z => nomatch z) (fun _ => ?_)
      exact se_ret (ee_p (ep_is (ep_and (a := false) (b := true) (ii rfl (Pw.rl_isInt (need_ok hb).1)) (fun z => nomatch z)) (by rw [← R.ok.inj (need_ok hb).2]; rfl)))
  | _ => cases hb
theorem same0 (D : Dx K mg "_law_same" ["actual", "expected"] s_law_same) : Fx P w K mg base (0 + 1) "_law_same" ["actual", "expected"] (spR P w K (R_law_same 0 K)) := by
  obtain ⟨f, fd, h1, F, h3⟩ := D
  exact ⟨f, fd, h1, F.kp, h3, ⟨fun vs H Q E ⟨_, _, _, _, _, ⟨_, _, z⟩, _⟩ => False.elim z, fun A outer s H args us vs Q E _ _ _ _ ⟨_, _, _, _, _, ⟨_, _, z⟩, _⟩ => False.elim z⟩⟩
def b_law_chains (size_0 : Int) (count_0 : Int) : R (Ctl Unit Unit (List (List Int))) := (R.bind (R.ok ([] : (List Int))) fun rows_2 => (R.bind (R.bind (R.ok (size_0, ())) fun t_3 => R.need (-100000 ≤ t_3.1 ∧ t_3.1 ≤ 100000) (R.ok (rangeI 0 (t_3.1).toNat))) fun l_20 => R.bindC (R.forR l_20 rows_2 (fun (v_4 : (List Int)) (k_5 : Int) => (R.bind (R.ok k_5) fun t_6 => R.need ((List.map eI v_4).length < 100000) (R.ok (Ctl.nx (v_4 ++ [t_6])))))) (fun (w_7 : (List Int)) => (R.bind (R.ok ([] : (List (List Int)))) fun found_9 => (R.bind (R.bind (R.ok (count_0, ())) fun t_10 => R.need (-100000 ≤ t_10.1 ∧ t_10.1 ≤ 100000) (R.ok (rangeI 0 (t_10.1).toNat))) fun l_19 => R.bindC (R.forR l_19 (w_7, found_9) (fun (v_11 : (List Int) × (List (List Int))) (k_12 : Int) => (R.bind (divR ((((v_11.1.length : Int) + count_0) - k_12) - (1 : Int)) (count_0 - k_12)) fun length_13 => (R.bind (R.bind (R.ok v_11.1) fun t_14 => R.ok (cutR t_14 none (some length_13))) fun t_15 => R.need ((List.map (eT eI) v_11.2).length < 100000) (R.bind (R.bind (R.ok v_11.1) fun t_16 => R.ok (cutR t_16 (some length_13) none)) fun rows_17 => (R.ok (Ctl.nx (rows_17, (v_11.2 ++ [t_15]))))))))) (fun (w_18 : (List Int) × (List (List Int))) => (R.ok (Ctl.rt w_18.2))))))))
def m_law_chains (size_0 : Int) (count_0 : Int) : R (List (List Int)) := (b_law_chains size_0 count_0).fin
abbrev R_law_chains (K : PySem.W.Frag) : List Dt → Rs → Prop := RF K (fun (a_ : Int × Int × Unit) => [eI a_.1, eI a_.2.1]) (fun a_ => m_law_chains a_.1 a_.2.1) (fun (b_ : (List (List Int))) => .o ((oL (eT eI)) b_))
theorem l_law_chains (K : PySem.W.Frag) (ds : List Dt) (r : Rs) (h : R_law_chains K ds r) : ds.length = 2 := by
  obtain ⟨_, rfl, _⟩ := h
  rfl
abbrev N_law_chains : List Str := ["size", "count", "rows", "k", "found", "length"]
theorem sc_law_chains : FnScope N_law_chains ["size", "count"] (defScope s_law_chains) := ⟨rfl, rfl, rfl, by decide +kernel, rfl, by decide +kernel, by decide +kernel⟩
theorem k_law_chains (T : Txt K mg) (D : Dx K mg "_law_chains" ["size", "count"] s_law_chains)  : Fx P w K mg base 1 "_law_chains" ["size", "count"] (spR P w K (R_law_chains K)) := by
  refine Fx.of D sc_law_chains (l_law_chains K) fun f cdv A outer s H E hr => ?_
  refine ⟨_, (pss_cons (pset (i := 2) sc_law_chains.nd (pe_lst pa_nil))
      (pss_cons (ps_for PassesOwn.never rfl (pi_range1 rfl T.f_range (pa_cons (pv 0) pa_nil)) (pgn (i := 3) sc_law_chains.nd)
      (pss_one (ps_expr (pe_bm PySem.F.plainAttrs_list PySem.F.slot_list_append PySem.F.type_list_append mt_append (pv 2) (pa_cons (pv 3) pa_nil)))))
      (pss_cons (pset (i := 4) sc_law_chains.nd (pe_lst pa_nil))
      (pss_cons (ps_for PassesOwn.never rfl (pi_range1 rfl T.f_range (pa_cons (pv 1) pa_nil)) (pgn (i := 3) sc_law_chains.nd)
      (pss_cons (pset (i := 5) sc_law_chains.nd (pe_op op_fdiv (pe_op op_sub (pe_op op_sub (pe_op op_add (pe_callB cr_len (by rfl) T.f_len PySem.boot_len (pa_cons (pv 2) pa_nil)) (pv 1)) (pv 3)) pe_int) (pe_op op_sub (pv 1) (pv 3))))
      (pss_cons (ps_expr (pe_bm PySem.F.plainAttrs_list PySem.F.slot_list_append PySem.F.type_list_append mt_append (pv 4) (pa_cons (pe_callTy cr_tuple (by rfl) T.f_tuple (by decide +kernel) (pa_cons (pe_slice sl_list (pv 2) po_none (po_some (pv 5))) pa_nil)) pa_nil)))
      (pss_one (pset (i := 2) sc_law_chains.nd (pe_slice sl_list (pv 2) (po_some (pv 5)) po_none))))))
      (pss_one (ps_ret (pv 4))))))), ?_⟩
  rintro ds r ⟨⟨size_0, count_0, _⟩, rfl, hr⟩
  exact does_o (eX := [.x, .x, .x, .x, .x, .x]) (u := (oL (eT eI))) (eL := fun (_ : Unit) => []) (eN := fun (_ : Unit) => []) (show Sx P w K _ _ _ _ _ [.d (eI size_0), .d (eI count_0), .u, .u, .u, .u] (b_law_chains size_0 count_0) _ from (sx_own (xo_v (po_n (np_lst ap_nil))) (fun rows_2 => (show Sx P w K _ _ _ _ _ [.d (eI size_0), .d (eI count_0), .ow none ((oL eI) rows_2), .u, .u, .u] _ _ from (sx_for (eS := (fun (v_4 : (List Int)) => [.d (eI size_0), .d (eI count_0), .ow none ((oL eI) v_4), .x, .u, .u])) (v0 := rows_2) outO_ok (xi_rng1 (n := fun (a_ : Int × Unit) => a_.1) (xa_v (ds := (fun (a_ : Int × Unit) => [eI a_.1])) (v := (size_0, ())) (ap_cons ep_var ap_nil))) (Le.s (Le.s (Le.s (Le.x (Le.s (Le.s Le.nil)))))) (fun v_4 (k_5 : Int) => ⟨_, ge_name, (show Sx P w K _ _ _ _ _ [.d (eI size_0), .d (eI count_0), .ow none ((oL eI) v_4), .d (eI k_5), .u, .u] _ _ from (sx_last (sx_app (i := 2) (xs := List.map eI v_4) rfl (xp_v ep_var) (fun t_6 => (sx_app1 2 (show Sx P w K _ _ _ _ _ [.d (eI size_0), .d (eI count_0), .ow none ((oL eI) (v_4 ++ [t_6])), .d (eI k_5), .u, .u] _ _ from (sx_end (Le.s (Le.s (Le.s (Le.x (Le.s (Le.s Le.nil)))))))))))))⟩) (fun w_7 => (show Sx P w K _ _ _ _ _ [.d (eI size_0), .d (eI count_0), .ow none ((oL eI) w_7), .x, .u, .u] _ _ from (sx_own (xo_v (po_n (np_lst ap_nil))) (fun found_9 => (show Sx P w K _ _ _ _ _ [.d (eI size_0), .d (eI count_0), .ow none ((oL eI) w_7), .x, .ow none ((oL (eT eI)) found_9), .u] _ _ from (sx_freeze 2 rfl rfl (sx_for (eS := (fun (v_11 : (List Int) × (List (List Int))) => [.d (eI size_0), .d (eI count_0), .d ((eL eI) v_11.1), .x, .ow none ((oL (eT eI)) v_11.2), .x])) (v0 := (w_7, found_9)) outO_ok (xi_rng1 (n := fun (a_ : Int × Unit) => a_.1) (xa_v (ds := (fun (a_ : Int × Unit) => [eI a_.1])) (v := (count_0, ())) (ap_cons ep_var ap_nil))) (Le.s (Le.s (Le.s (Le.s (Le.s (Le.x Le.nil)))))) (fun v_11 (k_12 : Int) => ⟨_, ge_name, (show Sx P w K _ _ _ _ _ [.d (eI size_0), .d (eI count_0), .d ((eL eI) v_11.1), .d (eI k_12), .ow none ((oL (eT eI)) v_11.2), .x] _ _ from (sx_asg (xp_opVV (ep_op (ep_op (ep_op (ep_cb (ap_cons ep_var ap_nil) rl_lenLm) ep_var Pw.r2_I0) ep_var Pw.r2_I0) ep_int Pw.r2_I0) (ep_op ep_var ep_var Pw.r2_I0) rm_div) (fun length_13 => (show Sx P w K _ _ _ _ _ [.d (eI size_0), .d (eI count_0), .d ((eL eI) v_11.1), .d (eI k_12), .ow none ((oL (eT eI)) v_11.2), .d (eI length_13)] _ _ from (sx_app (i := 4) (xs := List.map (eT eI) v_11.2) rfl (xp_tupleL (xp_o (u := (oL eI)) (xo_cutL (xp_v ep_var) qo_none (qo_some ep_var)) (fun _ => rfl))) (fun t_15 => (sx_app1 4 (show Sx P w K _ _ _ _ _ [.d (eI size_0), .d (eI count_0), .d ((eL eI) v_11.1), .d (eI k_12), .ow none ((oL (eT eI)) (v_11.2 ++ [t_15])), .d (eI length_13)] _ _ from (sx_last (sx_asg (xp_o (u := (oL eI)) (xo_cutL (xp_v ep_var) (qo_some ep_var) qo_none) (fun _ => rfl)) (fun rows_17 => (show Sx P w K _ _ _ _ _ [.d (eI size_0), .d (eI count_0), .d ((eL eI) rows_17), .d (eI k_12), .ow none ((oL (eT eI)) (v_11.2 ++ [t_15])), .d (eI length_13)] _ _ from (sx_end (Le.s (Le.s (Le.s (Le.x (Le.s (Le.x Le.nil)))))))))))))))))))⟩) (fun w_18 => (show Sx P w K _ _ _ _ _ [.d (eI size_0), .d (eI count_0), .d ((eL eI) w_18.1), .x, .ow none ((oL (eT eI)) w_18.2), .x] _ _ from (sx_last (sx_retV (i := 4) rfl rfl)))))))))))))))) hr
def b_law_shifts (chains_v_0 : (List (List Int))) (bits_0 : (List Int)) : R (Ctl Unit Unit (List (Str × (List Int)))) := (R.bind (R.ok ([] : (List (Str × (List Int))))) fun steps_2 => (R.bind (R.bind (R.bind (R.bind (ixR chains_v_0 (0 : Int)) fun t_3 => R.ok (t_3.length : Int)) fun t_4 => (R.ok (t_4 - (1 : Int)))) fun t_5 => rngDnR t_5 (-1 : Int)) fun l_19 => R.bindC (R.forR l_19 steps_2 (fun (v_6 : (List (Str × (List Int)))) (left_7 : Int) => (R.bind (R.ok ([] : (List Int))) fun row_9 => (R.bind (R.ok chains_v_0) fun l_17 => R.bindC (R.forR l_17 row_9 (fun (v_10 : (List Int)) (chain_11 : (List Int)) => (R.bind (R.bind (R.ok (decide (left_7 < (chain_11.length : Int)))) fun t_13 => if t_13 = true then (R.bind (ixR chain_11 left_7) fun t_12 => (ixR bits_0 t_12)) else (R.ok (0 : Int))) fun t_14 => R.need ((List.map eI v_10).length < 100000) (R.ok (Ctl.nx (v_10 ++ [t_14])))))) (fun (w_15 : (List Int)) => (R.bind (R.ok ((("shift" : Str), w_15) : (Str × (List Int)))) fun t_16 => R.need ((List.map (eP2 eS (eT eI)) v_6).length < 100000) (R.ok (Ctl.nx (v_6 ++ [t_16]))))))))) (fun (w_18 : (List (Str × (List Int)))) => (R.ok (Ctl.rt w_18)))))
def m_law_shifts (chains_v_0 : (List (List Int))) (bits_0 : (List Int)) : R (List (Str × (List Int))) := (b_law_shifts chains_v_0 bits_0).fin
abbrev R_law_shifts (K : PySem.W.Frag) : List Dt → Rs → Prop := RF K (fun (a_ : (List (List Int)) × (List Int) × Unit) => [(eL (eT eI)) a_.1, (eT eI) a_.2.1]) (fun a_ => m_law_shifts a_.1 a_.2.1) (fun (b_ : (List (Str × (List Int)))) => .o ((oL (eP2 eS (eT eI))) b_))
theorem l_law_shifts (K : PySem.W.Frag) (ds : List Dt) (r : Rs) (h : R_law_shifts K ds r) : ds.length = 2 := by
  obtain ⟨_, rfl, _⟩ := h
  rfl
abbrev N_law_shifts : List Str := ["chains_v", "bits", "steps", "left", "row", "chain"]
theorem sc_law_shifts : FnScope N_law_shifts ["chains_v", "bits"] (defScope s_law_shifts) := ⟨rfl, rfl, rfl, by decide +kernel, rfl, by decide +kernel, by decide +kernel⟩
theorem k_law_shifts (T : Txt K mg) (D : Dx K mg "_law_shifts" ["chains_v", "bits"] s_law_shifts)  : Fx P w K mg base 1 "_law_shifts" ["chains_v", "bits"] (spR P w K (R_law_shifts K)) := by
  refine Fx.of D sc_law_shifts (l_law_shifts K) fun f cdv A outer s H E hr => ?_
  refine ⟨_, (pss_cons (pset (i := 2) sc_law_shifts.nd (pe_lst pa_nil))
      (pss_cons (ps_for PassesOwn.never rfl (pi_range3 rfl T.f_range (pa_cons (pe_op op_sub (pe_callB cr_len (by rfl) T.f_len PySem.boot_len (pa_cons (pe_ix ix_list (pv 0) pe_int (fun _ _ => rfl)) pa_nil)) pe_int) (pa_cons (pe_un un_neg pe_int) (pa_cons (pe_un un_neg pe_int) pa_nil)))) (pgn (i := 3) sc_law_shifts.nd)
      (pss_cons (pset (i := 4) sc_law_shifts.nd (pe_lst pa_nil))
      (pss_cons (ps_for PassesOwn.never rfl (pi_list (pv 0)) (pgn (i := 5) sc_law_shifts.nd)
      (pss_one (ps_expr (pe_bm PySem.F.plainAttrs_list PySem.F.slot_list_append PySem.F.type_list_append mt_append (pv 4) (pa_cons (pe_ifExp (pt_cmpR op_lt (pv 3) (pe_callB cr_len (by rfl) T.f_len PySem.boot_len (pa_cons (pv 5) pa_nil)) (nomark _)) (pe_ix ix_tup (pv 1) (pe_ix ix_tup (pv 5) (pv 3) (fun _ _ => rfl)) (fun _ _ => rfl)) pe_int) pa_nil)))))
      (pss_one (ps_expr (pe_bm PySem.F.plainAttrs_list PySem.F.slot_list_append PySem.F.type_list_append mt_append (pv 2) (pa_cons (pe_tup (pa_cons pe_str (pa_cons (pe_callTy cr_tuple (by rfl) T.f_tuple (by decide +kernel) (pa_cons (pv 4) pa_nil)) pa_nil))) pa_nil)))))))
      (pss_one (ps_ret (pv 2))))), ?_⟩
  rintro ds r ⟨⟨chains_v_0, bits_0, _⟩, rfl, hr⟩
  exact does_o (eX := [.x, .x, .x, .x, .x, .x]) (u := (oL (eP2 eS (eT eI)))) (eL := fun (_ : Unit) => []) (eN := fun (_ : Unit) => []) (show Sx P w K _ _ _ _ _ [.d ((eL (eT eI)) chains_v_0), .d ((eT eI) bits_0), .u, .u, .u, .u] (b_law_shifts chains_v_0 bits_0) _ from (sx_own (xo_v (po_n (np_lst ap_nil))) (fun steps_2 => (show Sx P w K _ _ _ _ _ [.d ((eL (eT eI)) chains_v_0), .d ((eT eI) bits_0), .ow none ((oL (eP2 eS (eT eI))) steps_2), .u, .u, .u] _ _ from (sx_for (eS := (fun (v_6 : (List (Str × (List Int)))) => [.d ((eL (eT eI)) chains_v_0), .d ((eT eI) bits_0), .ow none ((oL (eP2 eS (eT eI))) v_6), .x, .x, .x])) (v0 := steps_2) outO_ok (xi_rngDn1 (xp_opMV (xp_b1 (da := (eT eI)) (xp_opVV ep_var ep_int rm_ixL) (fun _ => rl_lenTm)) ep_int (fun _ => (rm_v Pw.r2_I0))) (ep_is (ep_un ep_int Pw.r1_U) rfl) (ep_is (ep_un ep_int Pw.r1_U) rfl)) (Le.s (Le.s (Le.s (Le.x (Le.x (Le.x Le.nil)))))) (fun v_6 (left_7 : Int) => ⟨_, ge_name, (show Sx P w K _ _ _ _ _ [.d ((eL (eT eI)) chains_v_0), .d ((eT eI) bits_0), .ow none ((oL (eP2 eS (eT eI))) v_6), .d (eI left_7), .x, .x] _ _ from (sx_own (xo_v (po_n (np_lst ap_nil))) (fun row_9 => (show Sx P w K _ _ _ _ _ [.d ((eL (eT eI)) chains_v_0), .d ((eT eI) bits_0), .ow none ((oL (eP2 eS (eT eI))) v_6), .d (eI left_7), .ow none ((oL eI) row_9), .x] _ _ from (sx_for (eS := (fun (v_10 : (List Int)) => [.d ((eL (eT eI)) chains_v_0), .d ((eT eI) bits_0), .ow none ((oL (eP2 eS (eT eI))) v_6), .d (eI left_7), .ow none ((oL eI) v_10), .x])) (v0 := row_9) outO_ok (xi_list (xp_v ep_var)) (Le.s (Le.s (Le.s (Le.s (Le.s (Le.s Le.nil)))))) (fun v_10 (chain_11 : (List Int)) => ⟨_, ge_name, (show Sx P w K _ _ _ _ _ [.d ((eL (eT eI)) chains_v_0), .d ((eT eI) bits_0), .ow none ((oL (eP2 eS (eT eI))) v_6), .d (eI left_7), .ow none ((oL eI) v_10), .d ((eT eI) chain_11)] _ _ from (sx_last (sx_app (i := 4) (xs := List.map eI v_10) rfl (xp_if (xt_v (tp_test (ep_op ep_var (ep_cb (ap_cons ep_var ap_nil) rl_lenTm) Pw.r2_B0))) (xp_opVM ep_var (xp_opVV ep_var ep_var rm_ixT) (fun _ => rm_ixT)) (xp_v ep_int)) (fun t_14 => (sx_app1 4 (show Sx P w K _ _ _ _ _ [.d ((eL (eT eI)) chains_v_0), .d ((eT eI) bits_0), .ow none ((oL (eP2 eS (eT eI))) v_6), .d (eI left_7), .ow none ((oL eI) (v_10 ++ [t_14])), .d ((eT eI) chain_11)] _ _ from (sx_end (Le.s (Le.s (Le.s (Le.s (Le.s (Le.x Le.nil)))))))))))))⟩) (fun w_15 => (show Sx P w K _ _ _ _ _ [.d ((eL (eT eI)) chains_v_0), .d ((eT eI) bits_0), .ow none ((oL (eP2 eS (eT eI))) v_6), .d (eI left_7), .ow none ((oL eI) w_15), .x] _ _ from (sx_last (sx_app (i := 2) (xs := List.map (eP2 eS (eT eI)) v_6) rfl (xp_v (ep_is (e := (eP2 eS (eT eI)) ((("shift" : Str), w_15) : (Str × (List Int)))) (ep_tup (ap_cons ep_str (ap_cons (ep_tupleO (i := 4) rfl) ap_nil)) (Nat.le_of_ble_eq_true rfl)) rfl)) (fun t_16 => (sx_app1 2 (show Sx P w K _ _ _ _ _ [.d ((eL (eT eI)) chains_v_0), .d ((eT eI) bits_0), .ow none ((oL (eP2 eS (eT eI))) (v_6 ++ [t_16])), .d (eI left_7), .ow none ((oL eI) w_15), .x] _ _ from (sx_end (Le.s (Le.s (Le.s (Le.x (Le.x (Le.s Le.nil)))))))))))))))))))⟩) (fun w_18 => (show Sx P w K _ _ _ _ _ [.d ((eL (eT eI)) chains_v_0), .d ((eT eI) bits_0), .ow none ((oL (eP2 eS (eT eI))) w_18), .x, .x, .x] _ _ from (sx_last (sx_retV (i := 2) rfl rfl))))))))) hr
def b_law (script_0 : (List Int)) : R (Ctl Unit Unit Bool) := (R.bind (R.bind (R.ok (script_0, ())) fun t_1 => (m_law_draws t_1.1).nox) fun draws_2 => (R.bind2 (R.bind2 (R.bind (R.ok ((4 : Int), ())) fun a_ => R.ok (a_, draws_2)) fun t_3 s_4 => R.bind2 (R.nox (m_law_draw s_4 t_3.1)) fun z_ y_ => R.ok (z_, y_)) fun many_5 s_6 => (R.bind2 (R.bind2 (R.bind (R.ok ((10 : Int), ())) fun a_ => R.ok (a_, s_6)) fun t_7 s_8 => R.bind2 (R.nox (m_law_draw s_8 t_7.1)) fun z_ y_ => R.ok (z_, y_)) fun size_9 s_10 => (R.bind (R.bind (R.ok ([("a" : Str), ("b" : Str), ("c" : Str)] : (List Str))) fun t_11 => R.ok (cutR t_11 none (some many_5))) fun inputs_12 => (R.bind (R.bind (R.bind (R.ok (size_9, ())) fun t_13 => R.need (-100000 ≤ t_13.1 ∧ t_13.1 ≤ 100000) (R.ok (rangeI 0 (t_13.1).toNat))) fun l_21 => (R.lcR l_21 (fun k_14 => (R.ok true)) (fun k_14 => (R.bind (R.bind (R.bind (strR k_14) fun t_15 => (addSR ("r" : Str) t_15)) fun t_18 => R.bind (R.bind (R.ok ("one" : Str)) fun t_16 => R.bind (R.ok ()) fun t_17 => R.ok (t_16, t_17)) fun t_19 => R.ok (t_18, t_19)) fun t_20 => R.ok (t_20.1, t_20.2.1)))).nox) fun registers_22 => (R.bind (R.bind (R.ok (inputs_12, (registers_22, (([((⟨("one" : Str), ("high" : Str), ([] : (List Str))⟩ : Gt) : Gt)] : (List Gt)), (([("one" : Str)] : (List Str)), ()))))) fun t_23 => (m_Circuit_init t_23.1 t_23.2.1 t_23.2.2.1 t_23.2.2.2.1).nox) fun circuit_24 => (R.bind2 (R.bind2 (R.bind (R.ok (1 : Int)) fun a_ => R.ok (a_, s_10)) fun t_29 s_25 => R.bind2 (R.bind2 (R.bind (R.ok ((if size_9 > (1 : Int) then size_9 else (1 : Int)), ())) fun a_ => R.ok (a_, s_25)) fun t_26 s_27 => R.bind2 (R.nox (m_law_draw s_27 t_26.1)) fun z_ y_ => R.ok (z_, y_)) fun t_30 s_28 => R.bind (R.ok (t_29 + t_30)) fun z_ => R.ok (z_, s_28)) fun count_31 s_32 => (R.bind2 (R.bind2 (R.bind2 (R.bind2 (R.bind2 (R.bind (R.ok ((7 : Int), ())) fun a_ => R.ok (a_, s_32)) fun t_33 s_34 => R.bind2 (R.nox (m_law_draw s_34 t_33.1)) fun z_ y_ => R.ok (z_, y_)) fun t_36 s_35 => R.bind2 (R.ok ((), s_35)) fun t_37 s_38 => R.ok ((t_36, t_37), s_38)) fun t_39 s_40 => R.need (-100000 ≤ t_39.1 ∧ t_39.1 ≤ 100000) (R.ok (rangeI 0 (t_39.1).toNat, s_40))) fun l_ s_42 => (R.lcS l_ s_42 (fun k_41 s_43 => (R.ok (true, s_43))) (fun k_41 s_43 => (R.bind2 (R.bind (R.bind (R.ok ((many_5 + size_9), ())) fun t_44 => R.need (-100000 ≤ t_44.1 ∧ t_44.1 ≤ 100000) (R.ok (rangeI 0 (t_44.1).toNat))) fun a_ => R.ok (a_, s_43)) fun l_ s_46 => (R.lcS l_ s_46 (fun j_45 s_47 => (R.ok (true, s_47))) (fun j_45 s_47 => (R.bind2 (R.bind (R.ok ((2 : Int), ())) fun a_ => R.ok (a_, s_47)) fun t_48 s_49 => R.bind2 (R.nox (m_law_draw s_49 t_48.1)) fun z_ y_ => R.ok (z_, y_)))).nox))).nox) fun patterns_50 s_51 => (R.bind (R.bind (R.ok (size_9, (count_31, ()))) fun t_52 => (m_law_chains t_52.1 t_52.2.1).nox) fun chains_v_53 => (R.bind (R.ok ([] : (List (Str × (List Int))))) fun due_54 => (R.bind (R.ok patterns_50) fun l_157 => R.bindC (R.forR l_157 due_54 (fun (v_55 : (List (Str × (List Int)))) (pattern_56 : (List Int)) => (R.bind (R.bind (R.bind (R.bind (R.ok (chains_v_53, ((cutR pattern_56 (some many_5) none), ()))) fun t_57 => (m_law_shifts t_57.1 t_57.2.1).nox) fun t_58 => (catR v_55 t_58)) fun t_59 => (catR t_59 ([((("clock" : Str), (cutR pattern_56 none (some many_5))) : (Str × (List Int)))] : (List (Str × (List Int)))))) fun due_60 => (R.ok (Ctl.nx due_60))))) (fun (w_61 : (List (Str × (List Int)))) => (R.bind (R.bind (R.bind (R.bind (R.ok chains_v_53) fun t_64 => R.bind (R.bind (repTR ([(0 : Int)] : (List Int)) size_9) fun t_62 => R.bind (R.ok ()) fun t_63 => R.ok (t_62, t_63)) fun t_65 => R.ok (t_64, t_65)) fun t_66 => (m_law_shifts t_66.1 t_66.2.1).nox) fun t_67 => (catR w_61 t_67)) fun due_68 => (R.bind (R.ok patterns_50) fun handed_69 => (R.bind (R.bind (R.ok (circuit_24, (count_31, (handed_69, ())))) fun t_70 => (m_program_of t_70.1 t_70.2.1 t_70.2.2.1).nox) fun program_71 => (R.bind (R.bind (R.bind (R.bind (R.ok (((eL (eP2 eS (eT eI))) program_71), (((eL (eP2 eS (eT eI))) due_68), ()))) fun t_72 => (sameN 6 t_72.1 t_72.2.1).nox) fun t_73 => R.ok (!t_73)) fun t_74 => if t_74 = true then R.ok true else (R.ok (!(decide (handed_69 = patterns_50))))) fun c_75 => if c_75 = true then (R.bind (R.ok false) fun t_76 => R.ok (Ctl.rt t_76)) else (R.bind2 (R.bind2 (R.bind2 (R.bind (R.ok circuit_24) fun a_ => R.ok (a_, s_51)) fun t_96 s_77 => R.bind2 (R.bind2 (R.bind (R.ok (eU ())) fun a_ => R.ok (a_, s_77)) fun t_93 s_78 => R.bind2 (R.bind2 (R.bind (R.ok count_31) fun a_ => R.ok (a_, s_78)) fun t_90 s_79 => R.bind2 (R.bind2 (R.bind2 (R.bind (R.bind (R.ok (size_9, ())) fun t_80 => R.need (-100000 ≤ t_80.1 ∧ t_80.1 ≤ 100000) (R.ok (rangeI 0 (t_80.1).toNat))) fun a_ => R.ok (a_, s_79)) fun l_ s_82 => (R.lcS l_ s_82 (fun k_81 s_83 => (R.ok (true, s_83))) (fun k_81 s_83 => (R.bind2 (R.bind (R.ok ((2 : Int), ())) fun a_ => R.ok (a_, s_83)) fun t_84 s_85 => R.bind2 (R.nox (m_law_draw s_85 t_84.1)) fun z_ y_ => R.ok (z_, y_)))).nox) fun t_87 s_86 => R.bind2 (R.ok ((), s_86)) fun t_88 s_89 => R.ok ((t_87, t_88), s_89)) fun t_91 s_92 => R.ok ((t_90, t_91), s_92)) fun t_94 s_95 => R.ok ((t_93, t_94), s_95)) fun t_97 s_98 => R.ok ((t_96, t_97), s_98)) fun t_99 s_100 => R.bind (R.nox (m_Tester_init t_99.1 t_99.2.1 t_99.2.2.1 t_99.2.2.2.1)) fun z_ => R.ok (z_, s_100)) fun tester_101 s_102 => (R.bind (R.ok (0 : Int)) fun at_103 => (R.bind (R.ok patterns_50) fun l_156 => R.bindC (R.forR l_156 (tester_101, at_103) (fun (v_104 : (CV × Dt × (List (List Int)) × (List Int)) × Int) (pattern_105 : (List Int)) => (R.bind (R.bind (R.bind (R.bind (ixR chains_v_53 (0 : Int)) fun t_106 => R.ok (t_106.length : Int)) fun t_107 => R.bind (R.ok ()) fun t_108 => R.ok (t_107, t_108)) fun t_109 => R.need (-100000 ≤ t_109.1 ∧ t_109.1 ≤ 100000) (R.ok (rangeI 0 (t_109.1).toNat))) fun l_142 => R.bindC (R.forR l_142 (v_104.1, v_104.2) (fun (v_110 : (CV × Dt × (List (List Int)) × (List Int)) × Int) (k_111 : Int) => (R.bind2 (R.bind2 (R.bind (R.bind (R.bind (ixR program_71 v_110.2) fun t_112 => (R.ok t_112.2)) fun t_113 => R.bind (R.ok ()) fun t_114 => R.ok (t_113, t_114)) fun a_ => R.ok (a_, v_110.1)) fun t_115 s_116 => R.bind2 (R.nox (m_Tester_shift s_116 t_115.1)) fun z_ y_ => R.ok (z_, y_)) fun _ s_117 => (R.bind (R.ok (v_110.2 + (1 : Int))) fun at_118 => (R.ok (Ctl.nx (s_117, at_118))))))) (fun (w_119 : (CV × Dt × (List (List Int)) × (List Int)) × Int) => (R.bind (R.bind (R.nox (R.bind (R.ok ()) fun t_120 => ((m_Tester_stored w_119.1 )).nox)) fun t_121 => (R.ok (!(decide (t_121 = (cutR pattern_105 (some many_5) none)))))) fun c_122 => if c_122 = true then (R.bind (R.ok false) fun t_123 => R.ok (Ctl.rt t_123)) else (R.bind2 (R.bind2 (R.bind2 (R.bind2 (R.bind (R.bind (R.bind (ixR program_71 w_119.2) fun t_124 => (R.ok t_124.2)) fun t_125 => R.bind (R.ok ()) fun t_126 => R.ok (t_125, t_126)) fun a_ => R.ok (a_, w_119.1)) fun t_127 s_128 => R.bind2 (R.nox (m_Tester_clock s_128 t_127.1)) fun z_ y_ => R.ok (z_, y_)) fun t_131 s_129 => R.bind2 (R.bind (R.ok ([(1 : Int)] : (List Int))) fun a_ => R.ok (a_, s_129)) fun t_132 s_130 => R.bind (R.ok (!(decide (t_131 = t_132)))) fun z_ => R.ok (z_, s_130)) fun t_137 s_133 => if t_137 = true then R.ok (true, s_133) else (R.bind (R.bind (R.nox (R.bind (R.ok ()) fun t_134 => ((m_Tester_stored s_133 )).nox)) fun t_135 => R.bind (repTR ([(1 : Int)] : (List Int)) size_9) fun t_136 => (R.ok (!(decide (t_135 = t_136))))) fun a_ => R.ok (a_, s_133))) fun c_139 s_138 => if c_139 = true then (R.bind (R.ok false) fun t_140 => R.ok (Ctl.rt t_140)) else (R.bind (R.ok (w_119.2 + (1 : Int))) fun at_141 => (R.ok (Ctl.nx (s_138, at_141)))))))))) (fun (w_143 : (CV × Dt × (List (List Int)) × (List Int)) × Int) => (R.bind (R.bind (R.ok program_71) fun t_144 => R.ok (cutR t_144 (some w_143.2) none)) fun l_155 => R.bindC (R.forR l_155 w_143.1 (fun (v_145 : (CV × Dt × (List (List Int)) × (List Int))) (kind_146 : (Str × (List Int))) => (R.bind2 (R.bind2 (R.bind (R.ok (kind_146.2, ())) fun a_ => R.ok (a_, v_145)) fun t_147 s_148 => R.bind2 (R.nox (m_Tester_shift s_148 t_147.1)) fun z_ y_ => R.ok (z_, y_)) fun _ s_149 => (R.ok (Ctl.nx s_149))))) (fun (w_150 : (CV × Dt × (List (List Int)) × (List Int))) => (R.bind (R.bind (R.nox (R.bind (R.ok ()) fun t_151 => ((m_Tester_stored w_150 )).nox)) fun t_152 => R.bind (repTR ([(0 : Int)] : (List Int)) size_9) fun t_153 => (R.ok (decide (t_152 = t_153)))) fun t_154 => R.ok (Ctl.rt t_154))))))))))))))))))))))))
def m_law (script_0 : (List Int)) : R Bool := (b_law script_0).fin
abbrev R_law (K : PySem.W.Frag) : List Dt → Rs → Prop := RF K (fun (a_ : (List Int) × Unit) => [(eL eI) a_.1]) (fun a_ => m_law a_.1) (fun (b_ : Bool) => .d (eB b_))
theorem l_law (K : PySem.W.Frag) (ds : List Dt) (r : Rs) (h : R_law K ds r) : ds.length = 1 := by
  obtain ⟨_, rfl, _⟩ := h
  rfl
abbrev N_law : List Str := ["script", "draws", "many", "size", "inputs", "registers", "k", "circuit", "count", "patterns", "j", "chains_v", "due", "pattern", "handed", "program", "tester", "at", "kind", "bits"]
theorem sc_law : FnScope N_law ["script"] (defScope s_law) := ⟨rfl, rfl, rfl, by decide +kernel, rfl, by decide +kernel, by decide +kernel⟩
theorem k_law (T : Txt K mg) (D : Dx K mg "law" ["script"] s_law)  (G__law_draws : Fx P w K mg base 1 "_law_draws" ["script"] (spR P w K (R_law_draws K))) (G__law_draw : Fx P w K mg base 1 "_law_draw" ["draws", "limit"] (spM P w K M_law_draw)) (I_Circuit : Ix P w K mg base 5 (He.ga K "Circuit") "Circuit" ["self", "inputs", "registers", "gates", "outputs"] (spI P w K (He.ga K "Circuit") (RM_Circuit_init K true true true true))) (G__law_chains : Fx P w K mg base 1 "_law_chains" ["size", "count"] (spR P w K (R_law_chains K))) (G__law_shifts : Fx P w K mg base 1 "_law_shifts" ["chains_v", "bits"] (spR P w K (R_law_shifts K))) (G_program_of : Fx P w K mg base 5 "program_of" ["circuit", "count", "patterns"] (spR P w K (R_program_of K))) (G__law_same : Fx P w K mg base 7 "_law_same" ["actual", "expected"] (spR P w K (R_law_same 6 K))) (I_Tester : Ix P w K mg base 7 (He.ga K "Tester") "Tester" ["self", "circuit", "version", "count", "start"] (spI P w K (He.ga K "Tester") (R_Tester_init K))) (M_Tester_shift : Mx P w K mg base 5 (He.ga K "Tester") "shift" ["self", "bits"] (spM P w K (MM_Tester_shift K))) (M_Tester_stored : Mx P w K mg base 1 (He.ga K "Tester") "stored" ["self"] (spR P w K (R_Tester_stored K))) (M_Tester_clock : Mx P w K mg base 15 (He.ga K "Tester") "clock" ["self", "inputs"] (spM P w K (MM_Tester_clock K))) : FxL P w K mg base 16 "law" ["script"] (spR P w K (R_law K)) s_law := by
  refine FxL.of D sc_law (l_law K) fun f cdv A outer s H E hr => ?_
  have hu : (A.deeper (envOfC "law" (defScope s_law) s.heap.objs.size f cdv)).units + 64 < cLine := hr.units
  refine ⟨_, (pss_cons (pset (i := 1) sc_law.nd (pe_fx G__law_draws (hr.mono (by decide)) (pa_cons (pv 0) pa_nil)))
      (pss_cons (pset (i := 2) sc_law.nd (pe_fx G__law_draw (hr.mono (by decide)) (pa_cons (pv 1) (pa_cons pe_int pa_nil))))
      (pss_cons (pset (i := 3) sc_law.nd (pe_fx G__law_draw (hr.mono (by decide)) (pa_cons (pv 1) (pa_cons pe_int pa_nil))))
      (pss_cons (pset (i := 4) sc_law.nd (pe_callTy cr_tuple (by rfl) T.f_tuple (by decide +kernel) (pa_cons (pe_slice sl_list (pe_lst (pa_cons pe_str (pa_cons pe_str (pa_cons pe_str pa_nil)))) po_none (po_some (pv 2))) pa_nil)))
      (pss_cons (pset (i := 5) sc_law.nd (pe_callTy cr_tuple (by rfl) T.f_tuple (by decide +kernel) (pa_cons (pe_lc (own := [("k", 6)]) (g := gName 6) (tt := tYes) rfl sc_law.nd (pi_range1 rfl T.f_range (pa_cons (pv 3) pa_nil)) (blkOk_by (N := N_law) (sc := defScope s_law) (by decide +kernel)) (fun _ _ _ _ _ => (pgn (i := 6) sc_law.nd)) (fun _ _ _ _ _ => pts_nil) (fun _ _ _ _ _ => (pe_tup (pa_cons (pe_op op_add_str pe_str (pe_callTy call_str_int (by rfl) T.f_str (by decide +kernel) (pa_cons (pv 6) pa_nil))) (pa_cons pe_str pa_nil))))) pa_nil)))
      (pss_cons (pset (i := 7) sc_law.nd (pe_ix2 I_Circuit (hr.mono (by decide)) (pa_cons (pv 4) (pa_cons (pv 5) (pa_cons (pe_tup (pa_cons (pe_tup (pa_cons pe_str (pa_cons pe_str (pa_cons (pe_tup pa_nil) pa_nil)))) pa_nil)) (pa_cons (pe_tup (pa_cons pe_str pa_nil)) pa_nil))))))
      (pss_cons (pset (i := 8) sc_law.nd (pe_op op_add pe_int (pe_fx G__law_draw (hr.mono (by decide)) (pa_cons (pv 1) (pa_cons (pe_callB (cr_max2 rfl) (by rfl) T.f_max (by decide +kernel) (pa_cons pe_int (pa_cons (pv 3) pa_nil))) pa_nil)))))
      (pss_cons (ps_setLc (i := 9) (own := [("k", 6)]) (g := gName 6) (tt := tYes) rfl sc_law.nd rfl rfl (sw_true rfl rfl rfl (by decide +kernel)) (pi_range1 rfl T.f_range (pa_cons (pe_fx G__law_draw (hr.mono (by decide)) (pa_cons (pv 1) (pa_cons pe_int pa_nil))) pa_nil)) (blkOk_by (N := N_law) (sc := defScope s_law) (by decide +kernel)) (fun _ _ _ _ _ => (pgn (i := 6) sc_law.nd)) (fun _ _ _ _ _ => pts_nil) (fun _ _ _ _ _ => (pe_callTy (show CallR _ _ (rTupS K) from cr_tuple) (by rfl) T.f_tuple (by decide +kernel) (pa_cons (pe_lc (own := [("j", 10)]) (g := gName 10) (tt := tYes) rfl sc_law.nd (pi_range1 rfl T.f_range (pa_cons (pe_op op_add (pv 2) (pv 3)) pa_nil)) (blkOk_by (N := N_law) (by rfl)) (fun _ _ _ _ _ => (pgn (i := 10) sc_law.nd)) (fun _ _ _ _ _ => pts_nil) (fun _ _ _ _ _ => (pe_fx G__law_draw (hr.mono (by decide)) (pa_cons (pv 1) (pa_cons pe_int pa_nil))))) pa_nil))))
      (pss_cons (pset (i := 11) sc_law.nd (pe_fx G__law_chains (hr.mono (by decide)) (pa_cons (pv 3) (pa_cons (pv 8) pa_nil))))
      (pss_cons (pset (i := 12) sc_law.nd (pe_lst pa_nil))
      (pss_cons (ps_for PassesOwn.never rfl (pi_list (pv 9)) (pgn (i := 13) sc_law.nd)
      (pss_one (pset (i := 12) sc_law.nd (pe_op op_catS (pe_op op_catS (pv 12) (pe_fx G__law_shifts (hr.mono (by decide)) (pa_cons (pv 11) (pa_cons (pe_slice sl_tupA (pv 13) (po_some (pv 2)) po_none) pa_nil)))) (pe_lst (pa_cons (pe_tup (pa_cons pe_str (pa_cons (pe_slice sl_tupA (pv 13) po_none (po_some (pv 2))) pa_nil))) pa_nil))))))
      (pss_cons (pset (i := 12) sc_law.nd (pe_op op_catS (pv 12) (pe_fx G__law_shifts (hr.mono (by decide)) (pa_cons (pv 11) (pa_cons (pe_op op_repA (pe_tup (pa_cons pe_int pa_nil)) (pv 3)) pa_nil)))))
      (pss_cons (pset (i := 14) sc_law.nd (pe_callTy cr_list (by rfl) T.f_list (by decide +kernel) (pa_cons (pv 9) pa_nil)))
      (pss_cons (pset (i := 15) sc_law.nd (pe_fx G_program_of (hr.mono (by decide)) (pa_cons (pv 7) (pa_cons (pv 8) (pa_cons (pv 14) pa_nil)))))
      (pss_cons (ps_if (PW.pt (pw_or (pt_not (pt_val (pe_fx G__law_same (hr.mono (by decide)) (pa_cons (pv 15) (pa_cons (pv 12) pa_nil))))) (pw_or1 (pt_cmpR (op_neD hu) (pv 14) (pv 9) (nomark _))))) (pss_one (ps_ret pe_bl)) pss_nil)
      (pss_cons (pset (i := 16) sc_law.nd (pe_ix2 I_Tester (hr.mono (by decide)) (pa_cons (pv 7) (pa_cons pe_non (pa_cons (pv 8) (pa_cons (pe_callTy cr_tuple (by rfl) T.f_tuple (by decide +kernel) (pa_cons (pe_lc (own := [("k", 6)]) (g := gName 6) (tt := tYes) rfl sc_law.nd (pi_range1 rfl T.f_range (pa_cons (pv 3) pa_nil)) (blkOk_by (N := N_law) (sc := defScope s_law) (by decide +kernel)) (fun _ _ _ _ _ => (pgn (i := 6) sc_law.nd)) (fun _ _ _ _ _ => pts_nil) (fun _ _ _ _ _ => (pe_fx G__law_draw (hr.mono (by decide)) (pa_cons (pv 1) (pa_cons pe_int pa_nil))))) pa_nil)) pa_nil))))))
      (pss_cons (pset (i := 17) sc_law.nd pe_int)
      (pss_cons (ps_for PassesOwn.never rfl (pi_list (pv 9)) (pgn (i := 13) sc_law.nd)
      (pss_cons (ps_for PassesOwn.never rfl (pi_range1 rfl T.f_range (pa_cons (pe_callB cr_len (by rfl) T.f_len PySem.boot_len (pa_cons (pe_ix ix_list (pv 11) pe_int (fun _ _ => rfl)) pa_nil)) pa_nil)) (pgn (i := 6) sc_law.nd)
      (pss_cons (ps_expr (pe_mx M_Tester_shift T.k_Tester (hr.mono (by decide)) (pv 16) (pa_cons (pe_ix ix_tup (pe_ix ix_list (pv 15) (pv 17) (fun _ _ => rfl)) pe_int (fun _ _ => rfl)) pa_nil)))
      (pss_one (pset (i := 17) sc_law.nd (pe_op op_add (pv 17) pe_int)))))
      (pss_cons (ps_if (pt_cmpR (op_neD hu) (pe_mx0 M_Tester_stored T.k_Tester (hr.mono (by decide)) (pv 16)) (pe_slice sl_tupA (pv 13) (po_some (pv 2)) po_none) (nomark _)) (pss_one (ps_ret pe_bl)) pss_nil)
      (pss_cons (ps_if (PW.pt (pw_or (pt_cmpR (op_neD hu) (pe_mx M_Tester_clock T.k_Tester (hr.mono (by decide)) (pv 16) (pa_cons (pe_ix ix_tup (pe_ix ix_list (pv 15) (pv 17) (fun _ _ => rfl)) pe_int (fun _ _ => rfl)) pa_nil)) (pe_tup (pa_cons pe_int pa_nil)) (nomark _)) (pw_or1 (pt_cmpR (op_neD hu) (pe_mx0 M_Tester_stored T.k_Tester (hr.mono (by decide)) (pv 16)) (pe_op op_repA (pe_tup (pa_cons pe_int pa_nil)) (pv 3)) (nomark _))))) (pss_one (ps_ret pe_bl)) pss_nil)
      (pss_one (pset (i := 17) sc_law.nd (pe_op op_add (pv 17) pe_int)))))))
      (pss_cons (ps_for PassesOwn.never rfl (pi_list (pe_slice sl_list (pv 15) (po_some (pv 17)) po_none)) (pg_tup rfl (pgs_cons (pgn (i := 18) sc_law.nd) (pgs_cons (pgn (i := 19) sc_law.nd) pgs_nil)))
      (pss_one (ps_expr (pe_mx M_Tester_shift T.k_Tester (hr.mono (by decide)) (pv 16) (pa_cons (pv 19) pa_nil)))))
      (pss_one (ps_ret (pe_cmpR (op_eqD hu) (pe_mx0 M_Tester_stored T.k_Tester (hr.mono (by decide)) (pv 16)) (pe_op op_repA (pe_tup (pa_cons pe_int pa_nil)) (pv 3)) (nomark _))))))))))))))))))))))), ?_⟩
  rintro ds r ⟨⟨script_0, _⟩, rfl, hr⟩
  exact does_d (eX := [.x, .x, .x, .x, .x, .x, .x, .x, .x, .x, .x, .x, .x, .x, .x, .x, .x, .x, .x, .x]) (d := eB) (eL := fun (_ : Unit) => []) (eN := fun (_ : Unit) => []) (show Sx P w K _ _ _ _ _ [.d ((eL eI) script_0), .u, .u, .u, .u, .u, .u, .u, .u, .u, .u, .u, .u, .u, .u, .u, .u, .u, .u, .u] (b_law script_0) _ from (sx_own (xo_call (xa_v (ds := (fun (a_ : (List Int) × Unit) => [(eL eI) a_.1])) (v := (script_0, ())) (ap_cons ep_var ap_nil)) (fun _ => rfl)) (fun draws_2 => (sx_asgY (ye_callM (get := fun v => v) (put := fun _ x => x) (ya_p (en := (fun s_ => [.d ((eL eI) script_0), .ow none (drO s_), .u, .u, .u, .u, .u, .u, .u, .u, .u, .u, .u, .u, .u, .u, .u, .u, .u, .u])) (xa_v (ds := (fun (a_ : Int × Unit) => [eI a_.1])) (v := ((4 : Int), ())) (ap_cons ep_int ap_nil)) rfl) rfl (fun _ => rfl) (fun _ _ => rfl)) (fun many_5 s_6 => (show Sx P w K _ _ _ _ _ [.d ((eL eI) script_0), .ow none (drO s_6), .d (eI many_5), .u, .u, .u, .u, .u, .u, .u, .u, .u, .u, .u, .u, .u, .u, .u, .u, .u] _ _ from (sx_asgY (ye_callM (get := fun v => v) (put := fun _ x => x) (ya_p (en := (fun s_ => [.d ((eL eI) script_0), .ow none (drO s_), .d (eI many_5), .u, .u, .u, .u, .u, .u, .u, .u, .u, .u, .u, .u, .u, .u, .u, .u, .u])) (xa_v (ds := (fun (a_ : Int × Unit) => [eI a_.1])) (v := ((10 : Int), ())) (ap_cons ep_int ap_nil)) rfl) rfl (fun _ => rfl) (fun _ _ => rfl)) (fun size_9 s_10 => (show Sx P w K _ _ _ _ _ [.d ((eL eI) script_0), .ow none (drO s_10), .d (eI many_5), .d (eI size_9), .u, .u, .u, .u, .u, .u, .u, .u, .u, .u, .u, .u, .u, .u, .u, .u] _ _ from (sx_asg (xp_tupleL (xp_o (u := (oL eS)) (xo_cutL (xp_v (ep_is (e := (eL eS) ([("a" : Str), ("b" : Str), ("c" : Str)] : (List Str))) (ep_lst (ap_cons ep_str (ap_cons ep_str (ap_cons ep_str ap_nil))) (Nat.le_of_ble_eq_true rfl)) rfl)) qo_none (qo_some ep_var)) (fun _ => rfl))) (fun inputs_12 => (show Sx P w K _ _ _ _ _ [.d ((eL eI) script_0), .ow none (drO s_10), .d (eI many_5), .d (eI size_9), .d ((eT eS) inputs_12), .u, .u, .u, .u, .u, .u, .u, .u, .u, .u, .u, .u, .u, .u, .u] _ _ from (sx_asg (xp_tupleL (xp_o (u := (oL (eP2 eS eS))) (xo_lc (xi_rng1 (n := fun (a_ : Int × Unit) => a_.1) (xa_v (ds := (fun (a_ : Int × Unit) => [eI a_.1])) (v := (size_9, ())) (ap_cons ep_var ap_nil))) (fun k_14 => ⟨_, gc_name, (xt_v tp_yes), (xp_tup (xa_consM (da := eS) (xp_opVM ep_str (xp_str ep_var) (fun _ => rm_addS)) (xa_consM (da := eS) (xp_v ep_str) xa_nil)) (fun _ => rfl))⟩)) (fun _ => rfl))) (fun registers_22 => (show Sx P w K _ _ _ _ _ [.d ((eL eI) script_0), .ow none (drO s_10), .d (eI many_5), .d (eI size_9), .d ((eT eS) inputs_12), .d ((eT (eP2 eS eS)) registers_22), .u, .u, .u, .u, .u, .u, .u, .u, .u, .u, .u, .u, .u, .u] _ _ from (sx_asg (xp_o (xo_make (xa_v (ds := (fun (a_ : (List Str) × (List (Str × Str)) × (List Gt) × (List Str) × Unit) => [(eT eS) a_.1, (eT (eP2 eS eS)) a_.2.1, (eT Gt.d) a_.2.2.1, (eT eS) a_.2.2.2.1])) (v := (inputs_12, (registers_22, (([((⟨("one" : Str), ("high" : Str), ([] : (List Str))⟩ : Gt) : Gt)] : (List Gt)), (([("one" : Str)] : (List Str)), ()))))) (ap_cons ep_var (ap_cons ep_var (ap_cons (ep_is (e := (eT Gt.d) ([((⟨("one" : Str), ("high" : Str), ([] : (List Str))⟩ : Gt) : Gt)] : (List Gt))) (ep_tup (ap_cons (ep_is (e := Gt.d ((⟨("one" : Str), ("high" : Str), ([] : (List Str))⟩ : Gt) : Gt)) (ep_tup (ap_cons ep_str (ap_cons ep_str (ap_cons (ep_is (e := (eT eS) ([] : (List Str))) (ep_tup ap_nil (Nat.le_of_ble_eq_true rfl)) rfl) ap_nil))) (Nat.le_of_ble_eq_true rfl)) rfl) ap_nil) (Nat.le_of_ble_eq_true rfl)) rfl) (ap_cons (ep_is (e := (eT eS) ([("one" : Str)] : (List Str))) (ep_tup (ap_cons ep_str ap_nil) (Nat.le_of_ble_eq_true rfl)) rfl) ap_nil))))) (fun _ => rfl)) (fun _ => rfl)) (fun circuit_24 => (show Sx P w K _ _ _ _ _ [.d ((eL eI) script_0), .ow none (drO s_10), .d (eI many_5), .d (eI size_9), .d ((eT eS) inputs_12), .d ((eT (eP2 eS eS)) registers_22), .u, .d ((eCircuit K) circuit_24), .u, .u, .u, .u, .u, .u, .u, .u, .u, .u, .u, .u] _ _ from (sx_asgY (ye_op (ye_p (en := (fun s_ => [.d ((eL eI) script_0), .ow none (drO s_), .d (eI many_5), .d (eI size_9), .d ((eT eS) inputs_12), .d ((eT (eP2 eS eS)) registers_22), .u, .d ((eCircuit K) circuit_24), .u, .u, .u, .u, .u, .u, .u, .u, .u, .u, .u, .u])) (xp_v ep_int) rfl) (fun _ => (ye_callM (get := fun v => v) (put := fun _ x => x) (ya_p (en := (fun s_ => [.d ((eL eI) script_0), .ow none (drO s_), .d (eI many_5), .d (eI size_9), .d ((eT eS) inputs_12), .d ((eT (eP2 eS eS)) registers_22), .u, .d ((eCircuit K) circuit_24), .u, .u, .u, .u, .u, .u, .u, .u, .u, .u, .u, .u])) (xa_v (ds := (fun (a_ : Int × Unit) => [eI a_.1])) (v := ((if size_9 > (1 : Int) then size_9 else (1 : Int)), ())) (ap_cons (ep_cb (ap_cons ep_int (ap_cons ep_var ap_nil)) Pw.rl_max2) ap_nil)) rfl) rfl (fun _ => rfl) (fun _ _ => rfl))) (fun _ _ => (rm_v Pw.r2_I0))) (fun count_31 s_32 => (show Sx P w K _ _ _ _ _ [.d ((eL eI) script_0), .ow none (drO s_32), .d (eI many_5), .d (eI size_9), .d ((eT eS) inputs_12), .d ((eT (eP2 eS eS)) registers_22), .u, .d ((eCircuit K) circuit_24), .d (eI count_31), .u, .u, .u, .u, .u, .u, .u, .u, .u, .u, .u] _ _ from (sx_asgY (ye_o (u := (oL (eT eI))) (yo_lcS (eb := (fun s_ k_41 => [.d ((eL eI) script_0), .ow none (drO s_), .d (eI many_5), .d (eI size_9), .d ((eT eS) inputs_12), .d ((eT (eP2 eS eS)) registers_22), .d (eI k_41), .d ((eCircuit K) circuit_24), .d (eI count_31), .u, .u, .u, .u, .u, .u, .u, .u, .u, .u, .u])) (yi_rng1 (n := fun (a_ : Int × Unit) => a_.1) (en := (fun s_ => [.d ((eL eI) script_0), .ow none (drO s_), .d (eI many_5), .d (eI size_9), .d ((eT eS) inputs_12), .d ((eT (eP2 eS eS)) registers_22), .u, .d ((eCircuit K) circuit_24), .d (eI count_31), .u, .u, .u, .u, .u, .u, .u, .u, .u, .u, .u])) (ya_cons (da := eI) (ye_callM (get := fun v => v) (put := fun _ x => x) (ya_p (en := (fun s_ => [.d ((eL eI) script_0), .ow none (drO s_), .d (eI many_5), .d (eI size_9), .d ((eT eS) inputs_12), .d ((eT (eP2 eS eS)) registers_22), .u, .d ((eCircuit K) circuit_24), .d (eI count_31), .u, .u, .u, .u, .u, .u, .u, .u, .u, .u, .u])) (xa_v (ds := (fun (a_ : Int × Unit) => [eI a_.1])) (v := ((7 : Int), ())) (ap_cons ep_int ap_nil)) rfl) rfl (fun _ => rfl) (fun _ _ => rfl)) (fun _ => (ya_nil (en := (fun s_ => [.d ((eL eI) script_0), .ow none (drO s_), .d (eI many_5), .d (eI size_9), .d ((eT eS) inputs_12), .d ((eT (eP2 eS eS)) registers_22), .u, .d ((eCircuit K) circuit_24), .d (eI count_31), .u, .u, .u, .u, .u, .u, .u, .u, .u, .u, .u])) rfl)))) (fun _ _ _ => rfl) (fun _ _ _ => rfl) (fun _ => noOw_of rfl) (fun _ _ => (Sh.s (Sh.o (Sh.s (Sh.s (Sh.s (Sh.s (Sh.s (Sh.s (Sh.s (Sh.s (Sh.s (Sh.s (Sh.s (Sh.s (Sh.s (Sh.s (Sh.s (Sh.s (Sh.s (Sh.s Sh.nil))))))))))))))))))))) (fun s_43 k_41 => ⟨gc_name, (yt_yes (en := (fun s_ => [.d ((eL eI) script_0), .ow none (drO s_), .d (eI many_5), .d (eI size_9), .d ((eT eS) inputs_12), .d ((eT (eP2 eS eS)) registers_22), .d (eI k_41), .d ((eCircuit K) circuit_24), .d (eI count_31), .u, .u, .u, .u, .u, .u, .u, .u, .u, .u, .u])) rfl), (ye_tupleL (ye_o (u := (oL eI)) (yo_lcS (eb := (fun s_ j_45 => [.d ((eL eI) script_0), .ow none (drO s_), .d (eI many_5), .d (eI size_9), .d ((eT eS) inputs_12), .d ((eT (eP2 eS eS)) registers_22), .d (eI k_41), .d ((eCircuit K) circuit_24), .d (eI count_31), .u, .d (eI j_45), .u, .u, .u, .u, .u, .u, .u, .u, .u])) (yi_p (en := (fun s_ => [.d ((eL eI) script_0), .ow none (drO s_), .d (eI many_5), .d (eI size_9), .d ((eT eS) inputs_12), .d ((eT (eP2 eS eS)) registers_22), .d (eI k_41), .d ((eCircuit K) circuit_24), .d (eI count_31), .u, .u, .u, .u, .u, .u, .u, .u, .u, .u, .u])) (xi_rng1 (n := fun (a_ : Int × Unit) => a_.1) (xa_v (ds := (fun (a_ : Int × Unit) => [eI a_.1])) (v := ((many_5 + size_9), ())) (ap_cons (ep_op ep_var ep_var Pw.r2_I0) ap_nil))) rfl) (fun _ _ _ => rfl) (fun _ _ _ => rfl) (fun _ => noOw_of rfl) (fun _ _ => (Sh.s (Sh.o (Sh.s (Sh.s (Sh.s (Sh.s (Sh.s (Sh.s (Sh.s (Sh.s (Sh.s (Sh.s (Sh.s (Sh.s (Sh.s (Sh.s (Sh.s (Sh.s (Sh.s (Sh.s Sh.nil))))))))))))))))))))) (fun s_47 j_45 => ⟨gc_name, (yt_yes (en := (fun s_ => [.d ((eL eI) script_0), .ow none (drO s_), .d (eI many_5), .d (eI size_9), .d ((eT eS) inputs_12), .d ((eT (eP2 eS eS)) registers_22), .d (eI k_41), .d ((eCircuit K) circuit_24), .d (eI count_31), .u, .d (eI j_45), .u, .u, .u, .u, .u, .u, .u, .u, .u])) rfl), (ye_callM (get := fun v => v) (put := fun _ x => x) (ya_p (en := (fun s_ => [.d ((eL eI) script_0), .ow none (drO s_), .d (eI many_5), .d (eI size_9), .d ((eT eS) inputs_12), .d ((eT (eP2 eS eS)) registers_22), .d (eI k_41), .d ((eCircuit K) circuit_24), .d (eI count_31), .u, .d (eI j_45), .u, .u, .u, .u, .u, .u, .u, .u, .u])) (xa_v (ds := (fun (a_ : Int × Unit) => [eI a_.1])) (v := ((2 : Int), ())) (ap_cons ep_int ap_nil)) rfl) rfl (fun _ => rfl) (fun _ _ => rfl))⟩)) (fun _ => rfl)))⟩)) (fun _ => rfl)) (fun patterns_50 s_51 => (show Sx P w K _ _ _ _ _ [.d ((eL eI) script_0), .ow none (drO s_51), .d (eI many_5), .d (eI size_9), .d ((eT eS) inputs_12), .d ((eT (eP2 eS eS)) registers_22), .u, .d ((eCircuit K) circuit_24), .d (eI count_31), .d ((eL (eT eI)) patterns_50), .u, .u, .u, .u, .u, .u, .u, .u, .u, .u] _ _ from (sx_asg (xp_o (u := (oL (eT eI))) (xo_call (xa_v (ds := (fun (a_ : Int × Int × Unit) => [eI a_.1, eI a_.2.1])) (v := (size_9, (count_31, ()))) (ap_cons ep_var (ap_cons ep_var ap_nil))) (fun _ => rfl)) (fun _ => rfl)) (fun chains_v_53 => (show Sx P w K _ _ _ _ _ [.d ((eL eI) script_0), .ow none (drO s_51), .d (eI many_5), .d (eI size_9), .d ((eT eS) inputs_12), .d ((eT (eP2 eS eS)) registers_22), .u, .d ((eCircuit K) circuit_24), .d (eI count_31), .d ((eL (eT eI)) patterns_50), .u, .d ((eL (eT eI)) chains_v_53), .u, .u, .u, .u, .u, .u, .u, .u] _ _ from (sx_asg (xp_v (ep_is (e := (eL (eP2 eS (eT eI))) ([] : (List (Str × (List Int))))) (ep_lst ap_nil (Nat.le_of_ble_eq_true rfl)) rfl)) (fun due_54 => (show Sx P w K _ _ _ _ _ [.d ((eL eI) script_0), .ow none (drO s_51), .d (eI many_5), .d (eI size_9), .d ((eT eS) inputs_12), .d ((eT (eP2 eS eS)) registers_22), .u, .d ((eCircuit K) circuit_24), .d (eI count_31), .d ((eL (eT eI)) patterns_50), .u, .d ((eL (eT eI)) chains_v_53), .d ((eL (eP2 eS (eT eI))) due_54), .u, .u, .u, .u, .u, .u, .u] _ _ from (sx_for (eS := (fun (v_55 : (List (Str × (List Int)))) => [.d ((eL eI) script_0), .ow none (drO s_51), .d (eI many_5), .d (eI size_9), .d ((eT eS) inputs_12), .d ((eT (eP2 eS eS)) registers_22), .u, .d ((eCircuit K) circuit_24), .d (eI count_31), .d ((eL (eT eI)) patterns_50), .u, .d ((eL (eT eI)) chains_v_53), .d ((eL (eP2 eS (eT eI))) v_55), .x, .u, .u, .u, .u, .u, .u])) (v0 := due_54) outD_ok (xi_list (xp_v ep_var)) (Le.s (Le.s (Le.s (Le.s (Le.s (Le.s (Le.s (Le.s (Le.s (Le.s (Le.s (Le.s (Le.s (Le.x (Le.s (Le.s (Le.s (Le.s (Le.s (Le.s Le.nil)))))))))))))))))))) (fun v_55 (pattern_56 : (List Int)) => ⟨_, ge_name, (show Sx P w K _ _ _ _ _ [.d ((eL eI) script_0), .ow none (drO s_51), .d (eI many_5), .d (eI size_9), .d ((eT eS) inputs_12), .d ((eT (eP2 eS eS)) registers_22), .u, .d ((eCircuit K) circuit_24), .d (eI count_31), .d ((eL (eT eI)) patterns_50), .u, .d ((eL (eT eI)) chains_v_53), .d ((eL (eP2 eS (eT eI))) v_55), .d ((eT eI) pattern_56), .u, .u, .u, .u, .u, .u] _ _ from (sx_last (sx_asg (xp_opMV (xp_opVM ep_var (xp_o (u := (oL (eP2 eS (eT eI)))) (xo_call (xa_v (ds := (fun (a_ : (List (List Int)) × (List Int) × Unit) => [(eL (eT eI)) a_.1, (eT eI) a_.2.1])) (v := (chains_v_53, ((cutR pattern_56 (some many_5) none), ()))) (ap_cons ep_var (ap_cons (ep_cutT ep_var (qo_some ep_var) qo_none) ap_nil))) (fun _ => rfl)) (fun _ => rfl)) (fun _ => rm_catL)) (ep_is (e := (eL (eP2 eS (eT eI))) ([((("clock" : Str), (cutR pattern_56 none (some many_5))) : (Str × (List Int)))] : (List (Str × (List Int))))) (ep_lst (ap_cons (ep_is (e := (eP2 eS (eT eI)) ((("clock" : Str), (cutR pattern_56 none (some many_5))) : (Str × (List Int)))) (ep_tup (ap_cons ep_str (ap_cons (ep_cutT ep_var qo_none (qo_some ep_var)) ap_nil)) (Nat.le_of_ble_eq_true rfl)) rfl) ap_nil) (Nat.le_of_ble_eq_true rfl)) rfl) (fun _ => rm_catL)) (fun due_60 => (show Sx P w K _ _ _ _ _ [.d ((eL eI) script_0), .ow none (drO s_51), .d (eI many_5), .d (eI size_9), .d ((eT eS) inputs_12), .d ((eT (eP2 eS eS)) registers_22), .u, .d ((eCircuit K) circuit_24), .d (eI count_31), .d ((eL (eT eI)) patterns_50), .u, .d ((eL (eT eI)) chains_v_53), .d ((eL (eP2 eS (eT eI))) due_60), .d ((eT eI) pattern_56), .u, .u, .u, .u, .u, .u] _ _ from (sx_end (Le.s (Le.s (Le.s (Le.s (Le.s (Le.s (Le.s (Le.s (Le.s (Le.s (Le.s (Le.s (Le.s (Le.x (Le.s (Le.s (Le.s (Le.s (Le.s (Le.s Le.nil))))))))))))))))))))))))))⟩) (fun w_61 => (show Sx P w K _ _ _ _ _ [.d ((eL eI) script_0), .ow none (drO s_51), .d (eI many_5), .d (eI size_9), .d ((eT eS) inputs_12), .d ((eT (eP2 eS eS)) registers_22), .u, .d ((eCircuit K) circuit_24), .d (eI count_31), .d ((eL (eT eI)) patterns_50), .u, .d ((eL (eT eI)) chains_v_53), .d ((eL (eP2 eS (eT eI))) w_61), .x, .u, .u, .u, .u, .u, .u] _ _ from (sx_asg (xp_opVM ep_var (xp_o (u := (oL (eP2 eS (eT eI)))) (xo_call (xa_consM (da := (eL (eT eI))) (xp_v ep_var) (xa_consM (da := (eT eI)) (xp_opVV (ep_is (e := (eT eI) ([(0 : Int)] : (List Int))) (ep_tup (ap_cons ep_int ap_nil) (Nat.le_of_ble_eq_true rfl)) rfl) ep_var rm_repA) xa_nil)) (fun _ => rfl)) (fun _ => rfl)) (fun _ => rm_catL)) (fun due_68 => (show Sx P w K _ _ _ _ _ [.d ((eL eI) script_0), .ow none (drO s_51), .d (eI many_5), .d (eI size_9), .d ((eT eS) inputs_12), .d ((eT (eP2 eS eS)) registers_22), .u, .d ((eCircuit K) circuit_24), .d (eI count_31), .d ((eL (eT eI)) patterns_50), .u, .d ((eL (eT eI)) chains_v_53), .d ((eL (eP2 eS (eT eI))) due_68), .x, .u, .u, .u, .u, .u, .u] _ _ from (sx_asg (xp_o (u := (oL (eT eI))) (xo_listL (xp_v ep_var)) (fun _ => rfl)) (fun handed_69 => (show Sx P w K _ _ _ _ _ [.d ((eL eI) script_0), .ow none (drO s_51), .d (eI many_5), .d (eI size_9), .d ((eT eS) inputs_12), .d ((eT (eP2 eS eS)) registers_22), .u, .d ((eCircuit K) circuit_24), .d (eI count_31), .d ((eL (eT eI)) patterns_50), .u, .d ((eL (eT eI)) chains_v_53), .d ((eL (eP2 eS (eT eI))) due_68), .x, .d ((eL (eT eI)) handed_69), .u, .u, .u, .u, .u] _ _ from (sx_asg (xp_o (u := (oL (eP2 eS (eT eI)))) (xo_call (xa_v (ds := (fun (a_ : CV × Int × (List (List Int)) × Unit) => [(eCircuit K) a_.1, eI a_.2.1, (eL (eT eI)) a_.2.2.1])) (v := (circuit_24, (count_31, (handed_69, ())))) (ap_cons ep_var (ap_cons ep_var (ap_cons ep_var ap_nil)))) (fun _ => rfl)) (fun _ => rfl)) (fun program_71 => (show Sx P w K _ _ _ _ _ [.d ((eL eI) script_0), .ow none (drO s_51), .d (eI many_5), .d (eI size_9), .d ((eT eS) inputs_12), .d ((eT (eP2 eS eS)) registers_22), .u, .d ((eCircuit K) circuit_24), .d (eI count_31), .d ((eL (eT eI)) patterns_50), .u, .d ((eL (eT eI)) chains_v_53), .d ((eL (eP2 eS (eT eI))) due_68), .x, .d ((eL (eT eI)) handed_69), .d ((eL (eP2 eS (eT eI))) program_71), .u, .u, .u, .u] _ _ from (sx_if (xt_or (xt_not (xt_B (xp_call (xa_v (ds := (fun (a_ : Dt × Dt × Unit) => [eD a_.1, eD a_.2.1])) (v := (((eL (eP2 eS (eT eI))) program_71), (((eL (eP2 eS (eT eI))) due_68), ()))) (ap_cons ep_var (ap_cons ep_var ap_nil))) (fun _ => rfl)))) (xt_v (tp_test (ep_op ep_var ep_var (r2_neE (pyE_list (pyE_tup pyE_int)) (by decide)))))) (sx_ret (xp_v ep_bl) (fun _ => rfl)) (sx_skip (sx_ownY (yo_make (ya_cons (da := (eCircuit K)) (ye_p (en := (fun s_ => [.d ((eL eI) script_0), .ow none (drO s_), .d (eI many_5), .d (eI size_9), .d ((eT eS) inputs_12), .d ((eT (eP2 eS eS)) registers_22), .u, .d ((eCircuit K) circuit_24), .d (eI count_31), .d ((eL (eT eI)) patterns_50), .u, .d ((eL (eT eI)) chains_v_53), .d ((eL (eP2 eS (eT eI))) due_68), .x, .d ((eL (eT eI)) handed_69), .d ((eL (eP2 eS (eT eI))) program_71), .u, .u, .u, .u])) (xp_v ep_var) rfl) (fun _ => (ya_cons (da := eD) (ye_p (en := (fun s_ => [.d ((eL eI) script_0), .ow none (drO s_), .d (eI many_5), .d (eI size_9), .d ((eT eS) inputs_12), .d ((eT (eP2 eS eS)) registers_22), .u, .d ((eCircuit K) circuit_24), .d (eI count_31), .d ((eL (eT eI)) patterns_50), .u, .d ((eL (eT eI)) chains_v_53), .d ((eL (eP2 eS (eT eI))) due_68), .x, .d ((eL (eT eI)) handed_69), .d ((eL (eP2 eS (eT eI))) program_71), .u, .u, .u, .u])) (xp_v ep_non) rfl) (fun _ => (ya_cons (da := eI) (ye_p (en := (fun s_ => [.d ((eL eI) script_0), .ow none (drO s_), .d (eI many_5), .d (eI size_9), .d ((eT eS) inputs_12), .d ((eT (eP2 eS eS)) registers_22), .u, .d ((eCircuit K) circuit_24), .d (eI count_31), .d ((eL (eT eI)) patterns_50), .u, .d ((eL (eT eI)) chains_v_53), .d ((eL (eP2 eS (eT eI))) due_68), .x, .d ((eL (eT eI)) handed_69), .d ((eL (eP2 eS (eT eI))) program_71), .u, .u, .u, .u])) (xp_v ep_var) rfl) (fun _ => (ya_cons (da := (eT eI)) (ye_tupleL (ye_o (u := (oL eI)) (yo_lcS (eb := (fun s_ k_81 => [.d ((eL eI) script_0), .ow none (drO s_), .d (eI many_5), .d (eI size_9), .d ((eT eS) inputs_12), .d ((eT (eP2 eS eS)) registers_22), .d (eI k_81), .d ((eCircuit K) circuit_24), .d (eI count_31), .d ((eL (eT eI)) patterns_50), .u, .d ((eL (eT eI)) chains_v_53), .d ((eL (eP2 eS (eT eI))) due_68), .x, .d ((eL (eT eI)) handed_69), .d ((eL (eP2 eS (eT eI))) program_71), .u, .u, .u, .u])) (yi_p (en := (fun s_ => [.d ((eL eI) script_0), .ow none (drO s_), .d (eI many_5), .d (eI size_9), .d ((eT eS) inputs_12), .d ((eT (eP2 eS eS)) registers_22), .u, .d ((eCircuit K) circuit_24), .d (eI count_31), .d ((eL (eT eI)) patterns_50), .u, .d ((eL (eT eI)) chains_v_53), .d ((eL (eP2 eS (eT eI))) due_68), .x, .d ((eL (eT eI)) handed_69), .d ((eL (eP2 eS (eT eI))) program_71), .u, .u, .u, .u])) (xi_rng1 (n := fun (a_ : Int × Unit) => a_.1) (xa_v (ds := (fun (a_ : Int × Unit) => [eI a_.1])) (v := (size_9, ())) (ap_cons ep_var ap_nil))) rfl) (fun _ _ _ => rfl) (fun _ _ _ => rfl) (fun _ => noOw_of rfl) (fun _ _ => (Sh.s (Sh.o (Sh.s (Sh.s (Sh.s (Sh.s (Sh.s (Sh.s (Sh.s (Sh.s (Sh.s (Sh.s (Sh.s (Sh.s (Sh.s (Sh.s (Sh.s (Sh.s (Sh.s (Sh.s Sh.nil))))))))))))))))))))) (fun s_83 k_81 => ⟨gc_name, (yt_yes (en := (fun s_ => [.d ((eL eI) script_0), .ow none (drO s_), .d (eI many_5), .d (eI size_9), .d ((eT eS) inputs_12), .d ((eT (eP2 eS eS)) registers_22), .d (eI k_81), .d ((eCircuit K) circuit_24), .d (eI count_31), .d ((eL (eT eI)) patterns_50), .u, .d ((eL (eT eI)) chains_v_53), .d ((eL (eP2 eS (eT eI))) due_68), .x, .d ((eL (eT eI)) handed_69), .d ((eL (eP2 eS (eT eI))) program_71), .u, .u, .u, .u])) rfl), (ye_callM (get := fun v => v) (put := fun _ x => x) (ya_p (en := (fun s_ => [.d ((eL eI) script_0), .ow none (drO s_), .d (eI many_5), .d (eI size_9), .d ((eT eS) inputs_12), .d ((eT (eP2 eS eS)) registers_22), .d (eI k_81), .d ((eCircuit K) circuit_24), .d (eI count_31), .d ((eL (eT eI)) patterns_50), .u, .d ((eL (eT eI)) chains_v_53), .d ((eL (eP2 eS (eT eI))) due_68), .x, .d ((eL (eT eI)) handed_69), .d ((eL (eP2 eS (eT eI))) program_71), .u, .u, .u, .u])) (xa_v (ds := (fun (a_ : Int × Unit) => [eI a_.1])) (v := ((2 : Int), ())) (ap_cons ep_int ap_nil)) rfl) rfl (fun _ => rfl) (fun _ _ => rfl))⟩)) (fun _ => rfl))) (fun _ => (ya_nil (en := (fun s_ => [.d ((eL eI) script_0), .ow none (drO s_), .d (eI many_5), .d (eI size_9), .d ((eT eS) inputs_12), .d ((eT (eP2 eS eS)) registers_22), .u, .d ((eCircuit K) circuit_24), .d (eI count_31), .d ((eL (eT eI)) patterns_50), .u, .d ((eL (eT eI)) chains_v_53), .d ((eL (eP2 eS (eT eI))) due_68), .x, .d ((eL (eT eI)) handed_69), .d ((eL (eP2 eS (eT eI))) program_71), .u, .u, .u, .u])) rfl))))))))) (fun _ => rfl)) (fun tester_101 s_102 => (show Sx P w K _ _ _ _ _ [.d ((eL eI) script_0), .ow none (drO s_102), .d (eI many_5), .d (eI size_9), .d ((eT eS) inputs_12), .d ((eT (eP2 eS eS)) registers_22), .u, .d ((eCircuit K) circuit_24), .d (eI count_31), .d ((eL (eT eI)) patterns_50), .u, .d ((eL (eT eI)) chains_v_53), .d ((eL (eP2 eS (eT eI))) due_68), .x, .d ((eL (eT eI)) handed_69), .d ((eL (eP2 eS (eT eI))) program_71), .ow none ((oTester K) tester_101), .u, .u, .u] _ _ from (sx_asg (xp_v ep_int) (fun at_103 => (show Sx P w K _ _ _ _ _ [.d ((eL eI) script_0), .ow none (drO s_102), .d (eI many_5), .d (eI size_9), .d ((eT eS) inputs_12), .d ((eT (eP2 eS eS)) registers_22), .u, .d ((eCircuit K) circuit_24), .d (eI count_31), .d ((eL (eT eI)) patterns_50), .u, .d ((eL (eT eI)) chains_v_53), .d ((eL (eP2 eS (eT eI))) due_68), .x, .d ((eL (eT eI)) handed_69), .d ((eL (eP2 eS (eT eI))) program_71), .ow none ((oTester K) tester_101), .d (eI at_103), .u, .u] _ _ from (sx_for (eS := (fun (v_104 : (CV × Dt × (List (List Int)) × (List Int)) × Int) => [.d ((eL eI) script_0), .ow none (drO s_102), .d (eI many_5), .d (eI size_9), .d ((eT eS) inputs_12), .d ((eT (eP2 eS eS)) registers_22), .x, .d ((eCircuit K) circuit_24), .d (eI count_31), .d ((eL (eT eI)) patterns_50), .u, .d ((eL (eT eI)) chains_v_53), .d ((eL (eP2 eS (eT eI))) due_68), .x, .d ((eL (eT eI)) handed_69), .d ((eL (eP2 eS (eT eI))) program_71), .ow none ((oTester K) v_104.1), .d (eI v_104.2), .u, .u])) (v0 := (tester_101, at_103)) outD_ok (xi_list (xp_v ep_var)) (Le.s (Le.s (Le.s (Le.s (Le.s (Le.s (Le.x (Le.s (Le.s (Le.s (Le.s (Le.s (Le.s (Le.s (Le.s (Le.s (Le.s (Le.s (Le.s (Le.s Le.nil)))))))))))))))))))) (fun v_104 (pattern_105 : (List Int)) => ⟨_, ge_name, (show Sx P w K _ _ _ _ _ [.d ((eL eI) script_0), .ow none (drO s_102), .d (eI many_5), .d (eI size_9), .d ((eT eS) inputs_12), .d ((eT (eP2 eS eS)) registers_22), .x, .d ((eCircuit K) circuit_24), .d (eI count_31), .d ((eL (eT eI)) patterns_50), .u, .d ((eL (eT eI)) chains_v_53), .d ((eL (eP2 eS (eT eI))) due_68), .d ((eT eI) pattern_105), .d ((eL (eT eI)) handed_69), .d ((eL (eP2 eS (eT eI))) program_71), .ow none ((oTester K) v_104.1), .d (eI v_104.2), .u, .u] _ _ from (sx_for (eS := (fun (v_110 : (CV × Dt × (List (List Int)) × (List Int)) × Int) => [.d ((eL eI) script_0), .ow none (drO s_102), .d (eI many_5), .d (eI size_9), .d ((eT eS) inputs_12), .d ((eT (eP2 eS eS)) registers_22), .x, .d ((eCircuit K) circuit_24), .d (eI count_31), .d ((eL (eT eI)) patterns_50), .u, .d ((eL (eT eI)) chains_v_53), .d ((eL (eP2 eS (eT eI))) due_68), .d ((eT eI) pattern_105), .d ((eL (eT eI)) handed_69), .d ((eL (eP2 eS (eT eI))) program_71), .ow none ((oTester K) v_110.1), .d (eI v_110.2), .u, .u])) (v0 := (v_104.1, v_104.2)) outD_ok (xi_rng1 (n := fun (a_ : Int × Unit) => a_.1) (xa_consM (da := eI) (xp_b1 (da := (eT eI)) (xp_opVV ep_var ep_int rm_ixL) (fun _ => rl_lenTm)) xa_nil)) (Le.s (Le.s (Le.s (Le.s (Le.s (Le.s (Le.s (Le.s (Le.s (Le.s (Le.s (Le.s (Le.s (Le.s (Le.s (Le.s (Le.s (Le.s (Le.s (Le.s Le.nil)))))))))))))))))))) (fun v_110 (k_111 : Int) => ⟨_, ge_name, (show Sx P w K _ _ _ _ _ [.d ((eL eI) script_0), .ow none (drO s_102), .d (eI many_5), .d (eI size_9), .d ((eT eS) inputs_12), .d ((eT (eP2 eS eS)) registers_22), .d (eI k_111), .d ((eCircuit K) circuit_24), .d (eI count_31), .d ((eL (eT eI)) patterns_50), .u, .d ((eL (eT eI)) chains_v_53), .d ((eL (eP2 eS (eT eI))) due_68), .d ((eT eI) pattern_105), .d ((eL (eT eI)) handed_69), .d ((eL (eP2 eS (eT eI))) program_71), .ow none ((oTester K) v_110.1), .d (eI v_110.2), .u, .u] _ _ from (sx_dropY (ye_methM (get := fun v => v) (put := fun _ x => x) (ya_p (en := (fun s_ => [.d ((eL eI) script_0), .ow none (drO s_102), .d (eI many_5), .d (eI size_9), .d ((eT eS) inputs_12), .d ((eT (eP2 eS eS)) registers_22), .d (eI k_111), .d ((eCircuit K) circuit_24), .d (eI count_31), .d ((eL (eT eI)) patterns_50), .u, .d ((eL (eT eI)) chains_v_53), .d ((eL (eP2 eS (eT eI))) due_68), .d ((eT eI) pattern_105), .d ((eL (eT eI)) handed_69), .d ((eL (eP2 eS (eT eI))) program_71), .ow none ((oTester K) s_), .d (eI v_110.2), .u, .u])) (xa_consM (da := (eT eI)) (xp_opMV (xp_opVV ep_var ep_var rm_ixL) ep_int (fun _ => (rm_v (r2_ixTn 1 rfl)))) xa_nil) rfl) rfl (by decide +kernel) (fun _ => rfl) (fun _ _ => rfl)) (fun _ s_117 => (sx_last (sx_asg (xp_v (ep_op ep_var ep_int Pw.r2_I0)) (fun at_118 => (show Sx P w K _ _ _ _ _ [.d ((eL eI) script_0), .ow none (drO s_102), .d (eI many_5), .d (eI size_9), .d ((eT eS) inputs_12), .d ((eT (eP2 eS eS)) registers_22), .d (eI k_111), .d ((eCircuit K) circuit_24), .d (eI count_31), .d ((eL (eT eI)) patterns_50), .u, .d ((eL (eT eI)) chains_v_53), .d ((eL (eP2 eS (eT eI))) due_68), .d ((eT eI) pattern_105), .d ((eL (eT eI)) handed_69), .d ((eL (eP2 eS (eT eI))) program_71), .ow none ((oTester K) s_117), .d (eI at_118), .u, .u] _ _ from (sx_end (Le.s (Le.s (Le.s (Le.s (Le.s (Le.s (Le.x (Le.s (Le.s (Le.s (Le.s (Le.s (Le.s (Le.s (Le.s (Le.s (Le.s (Le.s (Le.s (Le.s Le.nil))))))))))))))))))))))))))))⟩) (fun w_119 => (show Sx P w K _ _ _ _ _ [.d ((eL eI) script_0), .ow none (drO s_102), .d (eI many_5), .d (eI size_9), .d ((eT eS) inputs_12), .d ((eT (eP2 eS eS)) registers_22), .x, .d ((eCircuit K) circuit_24), .d (eI count_31), .d ((eL (eT eI)) patterns_50), .u, .d ((eL (eT eI)) chains_v_53), .d ((eL (eP2 eS (eT eI))) due_68), .d ((eT eI) pattern_105), .d ((eL (eT eI)) handed_69), .d ((eL (eP2 eS (eT eI))) program_71), .ow none ((oTester K) w_119.1), .d (eI w_119.2), .u, .u] _ _ from (sx_if (xt_test (xp_opMV (xp_lendI 16 rfl (fun _ => xp_noxM (xp_meth (v := w_119.1) ep_var (xa_v (ds := (fun (a_ : Unit) => [])) (v := ()) ap_nil) (fun _ => rfl) (fun _ => rfl))) (fun _ => noObj_tI)) (ep_cutT ep_var (qo_some ep_var) qo_none) (fun _ => (rm_v (r2_neE (pyE_tup pyE_int) (by decide)))))) (sx_ret (xp_v ep_bl) (fun _ => rfl)) (sx_skip (sx_ifY (yt_or (yt_test (ye_op (ye_methM (get := fun v => v) (put := fun _ x => x) (ya_p (en := (fun s_ => [.d ((eL eI) script_0), .ow none (drO s_102), .d (eI many_5), .d (eI size_9), .d ((eT eS) inputs_12), .d ((eT (eP2 eS eS)) registers_22), .x, .d ((eCircuit K) circuit_24), .d (eI count_31), .d ((eL (eT eI)) patterns_50), .u, .d ((eL (eT eI)) chains_v_53), .d ((eL (eP2 eS (eT eI))) due_68), .d ((eT eI) pattern_105), .d ((eL (eT eI)) handed_69), .d ((eL (eP2 eS (eT eI))) program_71), .ow none ((oTester K) s_), .d (eI w_119.2), .u, .u])) (xa_consM (da := (eT eI)) (xp_opMV (xp_opVV ep_var ep_var rm_ixL) ep_int (fun _ => (rm_v (r2_ixTn 1 rfl)))) xa_nil) rfl) rfl (by decide +kernel) (fun _ => rfl) (fun _ _ => rfl)) (fun _ => (ye_p (en := (fun s_ => [.d ((eL eI) script_0), .ow none (drO s_102), .d (eI many_5), .d (eI size_9), .d ((eT eS) inputs_12), .d ((eT (eP2 eS eS)) registers_22), .x, .d ((eCircuit K) circuit_24), .d (eI count_31), .d ((eL (eT eI)) patterns_50), .u, .d ((eL (eT eI)) chains_v_53), .d ((eL (eP2 eS (eT eI))) due_68), .d ((eT eI) pattern_105), .d ((eL (eT eI)) handed_69), .d ((eL (eP2 eS (eT eI))) program_71), .ow none ((oTester K) s_), .d (eI w_119.2), .u, .u])) (xp_v (ep_is (e := (eT eI) ([(1 : Int)] : (List Int))) (ep_tup (ap_cons ep_int ap_nil) (Nat.le_of_ble_eq_true rfl)) rfl)) rfl)) (fun _ _ => (rm_v (r2_neE (pyE_tup pyE_int) (by decide)))))) (fun s_133 => (yt_p (en := (fun s_ => [.d ((eL eI) script_0), .ow none (drO s_102), .d (eI many_5), .d (eI size_9), .d ((eT eS) inputs_12), .d ((eT (eP2 eS eS)) registers_22), .x, .d ((eCircuit K) circuit_24), .d (eI count_31), .d ((eL (eT eI)) patterns_50), .u, .d ((eL (eT eI)) chains_v_53), .d ((eL (eP2 eS (eT eI))) due_68), .d ((eT eI) pattern_105), .d ((eL (eT eI)) handed_69), .d ((eL (eP2 eS (eT eI))) program_71), .ow none ((oTester K) s_), .d (eI w_119.2), .u, .u])) (xt_test (xp_opMM (xp_lendI 16 rfl (fun _ => xp_noxM (xp_meth (v := s_133) ep_var (xa_v (ds := (fun (a_ : Unit) => [])) (v := ()) ap_nil) (fun _ => rfl) (fun _ => rfl))) (fun _ => noObj_tI)) (xp_opVV (ep_is (e := (eT eI) ([(1 : Int)] : (List Int))) (ep_tup (ap_cons ep_int ap_nil) (Nat.le_of_ble_eq_true rfl)) rfl) ep_var rm_repA) (fun _ _ => (rm_v (r2_neE (pyE_tup pyE_int) (by decide)))))) rfl))) (fun s_138 => (sx_ret (xp_v ep_bl) (fun _ => rfl))) (fun s_138 => (sx_skip (sx_last (sx_asg (xp_v (ep_op ep_var ep_int Pw.r2_I0)) (fun at_141 => (show Sx P w K _ _ _ _ _ [.d ((eL eI) script_0), .ow none (drO s_102), .d (eI many_5), .d (eI size_9), .d ((eT eS) inputs_12), .d ((eT (eP2 eS eS)) registers_22), .x, .d ((eCircuit K) circuit_24), .d (eI count_31), .d ((eL (eT eI)) patterns_50), .u, .d ((eL (eT eI)) chains_v_53), .d ((eL (eP2 eS (eT eI))) due_68), .d ((eT eI) pattern_105), .d ((eL (eT eI)) handed_69), .d ((eL (eP2 eS (eT eI))) program_71), .ow none ((oTester K) s_138), .d (eI at_141), .u, .u] _ _ from (sx_end (Le.s (Le.s (Le.s (Le.s (Le.s (Le.s (Le.s (Le.s (Le.s (Le.s (Le.s (Le.s (Le.s (Le.x (Le.s (Le.s (Le.s (Le.s (Le.s (Le.s Le.nil))))))))))))))))))))))))))))))))))⟩) (fun w_143 => (show Sx P w K _ _ _ _ _ [.d ((eL eI) script_0), .ow none (drO s_102), .d (eI many_5), .d (eI size_9), .d ((eT eS) inputs_12), .d ((eT (eP2 eS eS)) registers_22), .x, .d ((eCircuit K) circuit_24), .d (eI count_31), .d ((eL (eT eI)) patterns_50), .u, .d ((eL (eT eI)) chains_v_53), .d ((eL (eP2 eS (eT eI))) due_68), .x, .d ((eL (eT eI)) handed_69), .d ((eL (eP2 eS (eT eI))) program_71), .ow none ((oTester K) w_143.1), .d (eI w_143.2), .u, .u] _ _ from (sx_for (eS := (fun (v_145 : (CV × Dt × (List (List Int)) × (List Int))) => [.d ((eL eI) script_0), .ow none (drO s_102), .d (eI many_5), .d (eI size_9), .d ((eT eS) inputs_12), .d ((eT (eP2 eS eS)) registers_22), .x, .d ((eCircuit K) circuit_24), .d (eI count_31), .d ((eL (eT eI)) patterns_50), .u, .d ((eL (eT eI)) chains_v_53), .d ((eL (eP2 eS (eT eI))) due_68), .x, .d ((eL (eT eI)) handed_69), .d ((eL (eP2 eS (eT eI))) program_71), .ow none ((oTester K) v_145), .d (eI w_143.2), .x, .x])) (v0 := w_143.1) outD_ok (xi_list (xp_o (u := (oL (eP2 eS (eT eI)))) (xo_cutL (xp_v ep_var) (qo_some ep_var) qo_none) (fun _ => rfl))) (Le.s (Le.s (Le.s (Le.s (Le.s (Le.s (Le.s (Le.s (Le.s (Le.s (Le.s (Le.s (Le.s (Le.s (Le.s (Le.s (Le.s (Le.s (Le.x (Le.x Le.nil)))))))))))))))))))) (fun v_145 (kind_146 : (Str × (List Int))) => ⟨_, (ge_tup (gs_cons ge_name (gs_cons ge_name gs_nil))), (show Sx P w K _ _ _ _ _ [.d ((eL eI) script_0), .ow none (drO s_102), .d (eI many_5), .d (eI size_9), .d ((eT eS) inputs_12), .d ((eT (eP2 eS eS)) registers_22), .x, .d ((eCircuit K) circuit_24), .d (eI count_31), .d ((eL (eT eI)) patterns_50), .u, .d ((eL (eT eI)) chains_v_53), .d ((eL (eP2 eS (eT eI))) due_68), .x, .d ((eL (eT eI)) handed_69), .d ((eL (eP2 eS (eT eI))) program_71), .ow none ((oTester K) v_145), .d (eI w_143.2), .d (eS kind_146.1), .d ((eT eI) kind_146.2)] _ _ from (sx_last (sx_dropY (ye_methM (get := fun v => v) (put := fun _ x => x) (ya_p (en := (fun s_ => [.d ((eL eI) script_0), .ow none (drO s_102), .d (eI many_5), .d (eI size_9), .d ((eT eS) inputs_12), .d ((eT (eP2 eS eS)) registers_22), .x, .d ((eCircuit K) circuit_24), .d (eI count_31), .d ((eL (eT eI)) patterns_50), .u, .d ((eL (eT eI)) chains_v_53), .d ((eL (eP2 eS (eT eI))) due_68), .x, .d ((eL (eT eI)) handed_69), .d ((eL (eP2 eS (eT eI))) program_71), .ow none ((oTester K) s_), .d (eI w_143.2), .d (eS kind_146.1), .d ((eT eI) kind_146.2)])) (xa_v (ds := (fun (a_ : (List Int) × Unit) => [(eT eI) a_.1])) (v := (kind_146.2, ())) (ap_cons ep_var ap_nil)) rfl) rfl (by decide +kernel) (fun _ => rfl) (fun _ _ => rfl)) (fun _ s_149 => (sx_end (Le.s (Le.s (Le.s (Le.s (Le.s (Le.s (Le.s (Le.s (Le.s (Le.s (Le.s (Le.s (Le.s (Le.s (Le.s (Le.s (Le.s (Le.s (Le.x (Le.x Le.nil)))))))))))))))))))))))))⟩) (fun w_150 => (show Sx P w K _ _ _ _ _ [.d ((eL eI) script_0), .ow none (drO s_102), .d (eI many_5), .d (eI size_9), .d ((eT eS) inputs_12), .d ((eT (eP2 eS eS)) registers_22), .x, .d ((eCircuit K) circuit_24), .d (eI count_31), .d ((eL (eT eI)) patterns_50), .u, .d ((eL (eT eI)) chains_v_53), .d ((eL (eP2 eS (eT eI))) due_68), .x, .d ((eL (eT eI)) handed_69), .d ((eL (eP2 eS (eT eI))) program_71), .ow none ((oTester K) w_150), .d (eI w_143.2), .x, .x] _ _ from (sx_last (sx_ret (xp_opMM (xp_lendI 16 rfl (fun _ => xp_noxM (xp_meth (v := w_150) ep_var (xa_v (ds := (fun (a_ : Unit) => [])) (v := ()) ap_nil) (fun _ => rfl) (fun _ => rfl))) (fun _ => noObj_tI)) (xp_opVV (ep_is (e := (eT eI) ([(0 : Int)] : (List Int))) (ep_tup (ap_cons ep_int ap_nil) (Nat.le_of_ble_eq_true rfl)) rfl) ep_var rm_repA) (fun _ _ => (rm_v (r2_eqE (pyE_tup pyE_int) (by decide))))) (fun _ => rfl))))))))))))))))))))))))))))))))))))))))))))))))))))))))))) hr
end
end CC
set_option maxHeartbeats 1000000
namespace CC
open PySem PySem.Spec PyProof.Rows L2 Qw Mw RZ
open Evl hiding ea_cons
open Pw (Dt Rp RpL Wk R2d R1d RLd RLn Kq KqL spX2 Xm Xm0 cr_int cr_min2 cr_max2 cr_list cr_tuple rTupS cr_len pe_globI pe_globS pe_globR pe_tyname)
section
def Ordd (src : List Str) (fo : List Gt) : Prop := ∀ (pre : List Gt) (g : Gt) (post : List Gt), fo = pre ++ g :: post → ∀ p ∈ g.ps, p ∈ src ∨ p ∈ pre.map Gt.l
structure OI (src : List Str) (gs : List Gt) (k : List Str) (fo ws : List Gt) : Prop where
  perm : (fo ++ ws).Perm gs
  kn : ∀ x, x ∈ k ↔ x ∈ src ∨ x ∈ fo.map Gt.l
  od : Ordd src fo
theorem mem_ins {k : List Str} {a x : Str} : x ∈ ins k a ↔ x ∈ k ∨ x = a := by
  unfold ins
  split
  · rename_i h
    exact ⟨.inl, fun z => z.elim id fun e => e ▸ h⟩
  · simp
theorem ostep_oi {src : List Str} {gs : List Gt} {s : Os} {g : Gt} {rest : List Gt} (h : OI src gs s.kn s.fo (s.le ++ g :: rest)) : OI src gs (ostep s g).kn (ostep s g).fo ((ostep s g).le ++ rest) := by
  unfold ostep
  split
  · rename_i hc
    refine ⟨?_, fun x => ?_, ?_⟩
    · refine List.Perm.trans ?_ h.perm
      show ((s.fo ++ [g]) ++ (s.le ++ rest)).Perm _
      rw [List.append_assoc]
      exact List.Perm.append_left _ (show (g :: (s.le ++ rest)).Perm (s.le ++ g :: rest) from List.perm_middle.symm)
    · show x ∈ ins s.kn g.l ↔ _
      rw [mem_ins, h.kn]
      simp [or_assoc]
    · intro pre g' post e p hp
      rcases List.eq_nil_or_concat post with rfl | ⟨post', z, rfl⟩
      · have e2 := List.append_inj' (show s.fo ++ [g] = pre ++ [g'] from e) rfl
        obtain ⟨rfl, e3⟩ := e2
        cases e3
        have := List.all_eq_true.mp hc p hp
        exact (h.kn p).mp (of_decide_eq_true this)
      · have e2 := List.append_inj' (show s.fo ++ [g] = (pre ++ g' :: post') ++ [z] by rw [List.append_assoc]; rw [List.concat_eq_append] at e; exact e) rfl
        exact h.od pre g' post' e2.1 p hp
  · refine ⟨?_, h.kn, h.od⟩
    show (s.fo ++ ((s.le ++ [g]) ++ rest)).Perm gs
    rw [List.append_assoc]
    exact h.perm
theorem opass_oi {src : List Str} {gs : List Gt} : ∀ (ws : List Gt) (s : Os), OI src gs s.kn s.fo (s.le ++ ws) → OI src gs (ws.foldl ostep s).kn (ws.foldl ostep s).fo (ws.foldl ostep s).le
  | [], s, h => by simpa using h
  | g :: ws, s, h => by
    rw [List.foldl_cons]
    exact opass_oi ws _ (ostep_oi h)
theorem opass_mono : ∀ (ws : List Gt) (s : Os), ∀ x ∈ s.kn, x ∈ (ws.foldl ostep s).kn
  | [], s, x, h => h
  | g :: ws, s, x, h => by
    rw [List.foldl_cons]
    refine opass_mono ws _ x ?_
    unfold ostep
    split
    · exact mem_ins.mpr (.inl h)
    · exact h
theorem opass_less {k : List Str} {fo ws : List Gt} {g : Gt} (hg : g ∈ ws) (hp : ∀ p ∈ g.ps, p ∈ k) : (opass k fo ws).le.length < ws.length := by
  obtain ⟨a, b, rfl⟩ := List.append_of_mem hg
  have h1 := opass_len a ⟨k, fo, []⟩
  have hm := opass_mono a ⟨k, fo, []⟩
  have h2 := opass_len b (ostep (a.foldl ostep ⟨k, fo, []⟩) g)
  have h3 := opass_len (a ++ g :: b) ⟨k, fo, []⟩
  have e : (a ++ g :: b).foldl ostep ⟨k, fo, []⟩ = b.foldl ostep (ostep (a.foldl ostep ⟨k, fo, []⟩) g) := by rw [List.foldl_append, List.foldl_cons]
  have hs : (ostep (a.foldl ostep ⟨k, fo, []⟩) g).fo.length = (a.foldl ostep ⟨k, fo, []⟩).fo.length + 1 := by
    have e3 : ∀ s : Os, (∀ p ∈ g.ps, p ∈ s.kn) → (ostep s g).fo = s.fo ++ [g] := fun s h => by
      unfold ostep
      rw [if_pos (List.all_eq_true.mpr fun p z => decide_eq_true (h p z))]
    rw [e3 _ fun p h => hm p (hp p h)]
    simp
  have h4 := h3.1
  have h5 := h2.2.1.2
  have h6 := h1.2.1.2
  unfold opass
  rw [e] at h4 ⊢
  simp only [List.length_nil, Nat.add_zero] at h4
  have h6 : fo.length ≤ (a.foldl ostep ⟨k, fo, []⟩).fo.length := h6
  omega
theorem min_rk (rk : Gt → Nat) : ∀ l : List Gt, l ≠ [] → ∃ g ∈ l, ∀ h ∈ l, rk g ≤ rk h
  | [], h => absurd rfl h
  | [g], _ => ⟨g, by simp, by simp⟩
  | g :: g2 :: l, _ => by
    obtain ⟨m, h1, h2⟩ := min_rk rk (g2 :: l) (by simp)
    by_cases e : rk g ≤ rk m
    · refine ⟨g, by simp, fun h hh => ?_⟩
      rcases List.mem_cons.mp hh with rfl | hh
      · exact Nat.le_refl _
      · exact Nat.le_trans e (h2 h hh)
    · refine ⟨m, List.mem_cons_of_mem _ h1, fun h hh => ?_⟩
      rcases List.mem_cons.mp hh with rfl | hh
      · omega
      · exact h2 h hh
theorem ordN_ok {src : List Str} {gs : List Gt} (rk : Gt → Nat) (hr : ∀ g ∈ gs, ∀ p ∈ g.ps, p ∈ src ∨ ∃ h ∈ gs, h.l = p ∧ rk h < rk g) : ∀ (n : Nat) (k : List Str) (fo ws : List Gt), ws.length ≤ n → OI src gs k fo ws → ∃ k' fo', ordN n k fo ws = .ok (k', fo') ∧ OI src gs k' fo' []
  | n, k, fo, [], _, h => ⟨k, fo, by cases n <;> rfl, h⟩
  | 0, _, _, g :: ws, hn, _ => by simp at hn
  | n + 1, k, fo, g :: ws, hn, h => by
    obtain ⟨m, m1, m2⟩ := min_rk rk (g :: ws) (by simp)
    have hmg : m ∈ gs := h.perm.mem_iff.mp (List.mem_append_right _ m1)
    have hless := opass_less (k := k) (fo := fo) m1 fun p hp => by
      rcases hr m hmg p hp with z | ⟨x, x1, x2, x3⟩
      · exact (h.kn p).mpr (.inl z)
      · rcases List.mem_append.mp (h.perm.mem_iff.mpr x1) with y | y
        · exact (h.kn p).mpr (.inr (List.mem_map.mpr ⟨x, y, x2⟩))
        · have := m2 x y
          omega
    have e : ordN (n + 1) k fo (g :: ws) = ordN n (opass k fo (g :: ws)).kn (opass k fo (g :: ws)).fo (opass k fo (g :: ws)).le := if_neg (by omega)
    rw [e]
    have hoi : OI src gs (opass k fo (g :: ws)).kn (opass k fo (g :: ws)).fo (opass k fo (g :: ws)).le := opass_oi (g :: ws) ⟨k, fo, []⟩ h
    exact ordN_ok rk hr n _ _ _ (by simp at hn hless; omega) hoi
theorem mem_foldins (l : List Str) : ∀ (q : List Str) (x : Str), x ∈ l.foldl ins q ↔ x ∈ q ∨ x ∈ l := by
  induction l with
  | nil => intro q x; simp
  | cons a l ih =>
    intro q x
    rw [List.foldl_cons, ih, mem_ins]
    simp [or_assoc]
theorem order_ok {src : List Str} {gs : List Gt} (rk : Gt → Nat) (hr : ∀ g ∈ gs, ∀ p ∈ g.ps, p ∈ src ∨ ∃ h ∈ gs, h.l = p ∧ rk h < rk g) : ∃ k ord, order src gs = .ok (k, ord) ∧ ord.Perm gs ∧ Ordd src ord := by
  obtain ⟨k, ord, e, h⟩ := ordN_ok rk hr gs.length (src.foldl ins []) [] gs (Nat.le_refl _) ⟨by simp, fun x => by rw [mem_foldins]; simp, fun pre g post z => by simp at z⟩
  exact ⟨k, ord, e, by simpa using h.perm, h.od⟩
end
end CC
set_option maxHeartbeats 1000000
namespace CC
open PySem PySem.Spec PyProof.Rows L2 Qw Mw RZ
open Evl hiding ea_cons
open Pw (Dt Rp RpL Wk R2d R1d RLd RLn Kq KqL spX2 Xm Xm0 cr_int cr_min2 cr_max2 cr_list cr_tuple rTupS cr_len pe_globI pe_globS pe_globR pe_tyname)
section
def bl : Nat → List (List Int)
  | 0 => [[]]
  | n + 1 => [] :: ((bl n).map (0 :: ·) ++ (bl n).map (1 :: ·))
def bit (x : Int) : Prop := x = 0 ∨ x = 1
theorem mem_bl : ∀ (n : Nat) (bs : List Int), bs.length ≤ n → (∀ b ∈ bs, bit b) → bs ∈ bl n
  | 0, [], _, _ => by simp [bl]
  | n + 1, [], _, _ => by simp [bl]
  | n + 1, b :: bs, h, hb => by
    have ih := mem_bl n bs (by simpa using h) fun x hx => hb x (List.mem_cons_of_mem _ hx)
    unfold bl
    rcases hb b List.mem_cons_self with rfl | rfl <;> simp [ih]
def isT (b : Int) : Bool := decide (b = 1)
def gB (k : Str) (bs : List Bool) : Bool :=
  let c := if k ∈ ([("and" : Str), ("nand" : Str)] : List Str) then bs.all id else if k ∈ ([("or" : Str), ("nor" : Str)] : List Str) then bs.any id else bs.foldl xor false
  if k ∈ (G_CONTRARY : List Str) then !c else c
def gv (k : Str) (bs : List Int) : Int := if gB k (bs.map isT) = true then 1 else 0
theorem gv_bit (k : Str) (bs : List Int) : bit (gv k bs) := by
  unfold gv
  split
  · exact .inr rfl
  · exact .inl rfl
inductive Ver where
  | ok
  | stem (l : Str) (b : Int)
  | pin (l : Str) (j : Nat) (b : Int)
  | short (a b k : Str)
deriving DecidableEq
def Ver.d : Ver → Dt
  | .ok => .non
  | .stem l b => .tup [.str "stem", .str l, .int b]
  | .pin l j b => .tup [.str "pin", .str l, .int (j : Int), .int b]
  | .short a b k => .tup [.str "short", .str a, .str b, .str k]
abbrev lin (p : CV) : List Str := linesOf p.1.is p.1.rs p.1.gs
abbrev src (p : CV) : List Str := srcOf p.1.is p.1.rs
structure Wf (p : CV) : Prop where
  ok : p.1.ok
  nd : (lin p).Nodup
  len : (lin p).length ≤ 60
  perm : p.2.Perm p.1.gs
  od : Ordd (src p) p.2
  nm : ∀ x ∈ lin p, nameB x = true ∧ okStr x = true ∧ x.length ≤ 12
  sk : ∀ x ∈ sinkOf p.1.os p.1.rs, x ∈ lin p
  kd : ∀ g ∈ p.1.gs, g.k ∈ KIN ∧ mayHave g.k g.ps.length = true
def Ver.fit (p : CV) : Ver → Prop
  | .ok => True
  | .stem l b => l ∈ lin p ∧ bit b
  | .pin l j b => (∃ g ∈ p.1.gs, g.l = l ∧ j < g.ps.length) ∧ bit b
  | .short a b k => a ∈ lin p ∧ b ∈ lin p ∧ (k = "and" ∨ k = "or") ∧ ltS a b = true ∧ ¬ a ∈ aboveL p.1.gs b ∧ ¬ b ∈ aboveL p.1.gs a
def sub (v : Ver) (l : Str) (bs : List Int) : List Int := match v with
  | .pin l' j b => if l' = l then bs.set j b else bs
  | _ => bs
abbrev Mpv := List (Str × Int)
def pvs (m : Mpv) (ps : List Str) : List Int := ps.map fun x => (getV m x).getD 0
def eqn (v : Ver) (fs : Mpv) (m : Mpv) (g : Gt) : Int := (getV fs g.l).getD (gv g.k (sub v g.l (pvs m g.ps)))
def stp (v : Ver) (fs : Mpv) (m : Mpv) (g : Gt) : Mpv := putV m g.l (eqn v fs m g)
def bitM (m : Mpv) : Prop := ∀ x y, getV m x = some y → bit y
theorem key_get {m : Mpv} {x : Str} (h : x ∈ m.map Prod.fst) : ∃ y, getV m x = some y := by
  have := getV_isSome (kvs := m) (x := x)
  rw [decide_eq_true h] at this
  exact Option.isSome_iff_exists.mp this
theorem get_key {m : Mpv} {x : Str} {y : Int} (h : getV m x = some y) : x ∈ m.map Prod.fst := by
  have := getV_isSome (kvs := m) (x := x)
  rw [h] at this
  exact of_decide_eq_true this.symm
theorem lin_gs {p : CV} {g : Gt} (h : g ∈ p.1.gs) : g.l ∈ lin p := List.mem_append_right _ (List.mem_map_of_mem h)
/-- what is known once the sources and the gates of `dn` are -/
structure Part (p : CV) (v : Ver) (fs : Mpv) (pat : List Int) (dn : List Gt) (m : Mpv) : Prop where
  keys : m.map Prod.fst = src p ++ dn.map Gt.l
  sv : ∀ q ∈ (src p).zip pat, getV m q.1 = some ((getV fs q.1).getD q.2)
  gt : ∀ g ∈ dn, g ∈ p.1.gs ∧ (∀ x ∈ g.ps, x ∈ m.map Prod.fst) ∧ getV m g.l = some (eqn v fs m g)
  bt : bitM m
theorem pv_bits {m : Mpv} {ps : List Str} (h : bitM m) : ∀ b ∈ pvs m ps, bit b := fun b hb => by
  obtain ⟨x, _, rfl⟩ := List.mem_map.mp hb
  cases e : getV m x with
  | none => exact .inl rfl
  | some y => exact h x y e
theorem sub_bits {p : CV} {v : Ver} (hv : v.fit p) {l : Str} {bs : List Int} (h : ∀ b ∈ bs, bit b) : ∀ b ∈ sub v l bs, bit b := fun b hb => by
  cases v with
  | pin l' j c =>
    simp only [sub] at hb
    split at hb
    · rcases List.mem_or_eq_of_mem_set hb with h1 | rfl
      · exact h b h1
      · exact hv.2
    · exact h b hb
  | _ => exact h b hb
theorem sub_len {v : Ver} {l : Str} {bs : List Int} : (sub v l bs).length = bs.length := by
  unfold sub
  split
  · split
    · exact List.length_set
    · rfl
  · rfl
theorem pv_len {m : Mpv} {ps : List Str} : (pvs m ps).length = ps.length := List.length_map _
theorem eqn_bit {p : CV} (W : Wf p) {v : Ver} (hv : v.fit p) {fs m : Mpv} (hm : bitM m) (hf : bitM fs) {g : Gt} (hg : g ∈ p.1.gs) : bit (eqn v fs m g) := by
  unfold eqn
  cases e : getV fs g.l with
  | none => exact gv_bit _ _
  | some y => exact hf _ y e
theorem put_keysN {m : Mpv} {x : Str} {a : Int} (h : ¬ x ∈ m.map Prod.fst) : (putV m x a).map Prod.fst = m.map Prod.fst ++ [x] := by rw [putV_keys, if_neg h]
theorem get_putN {m : Mpv} {x y : Str} {a : Int} (h : x ≠ y) : getV (putV m x a) y = getV m y := by rw [getV_put, if_neg h]
theorem pv_congr {m m' : Mpv} {ps : List Str} (h : ∀ x ∈ ps, getV m x = getV m' x) : pvs m ps = pvs m' ps := List.map_congr_left fun x hx => by rw [h x hx]
theorem eqn_congr {v : Ver} {fs m m' : Mpv} {g : Gt} (h : ∀ x ∈ g.ps, getV m x = getV m' x) : eqn v fs m g = eqn v fs m' g := by
  unfold eqn
  rw [pv_congr h]
theorem Part.step {p : CV} (W : Wf p) {v : Ver} (hv : v.fit p) {fs : Mpv} (hf : bitM fs) {pat : List Int} {dn : List Gt} {m : Mpv} (H : Part p v fs pat dn m) {g : Gt} (hg : g ∈ p.1.gs) (hn : ¬ g.l ∈ m.map Prod.fst) (hp : ∀ x ∈ g.ps, x ∈ m.map Prod.fst) : Part p v fs pat (dn ++ [g]) (stp v fs m g) := by
  have hk : (stp v fs m g).map Prod.fst = m.map Prod.fst ++ [g.l] := put_keysN hn
  have hold : ∀ x ∈ m.map Prod.fst, getV (stp v fs m g) x = getV m x := fun x hx => get_putN fun e => hn (e ▸ hx)
  refine ⟨by rw [hk, H.keys]; simp, fun q hq => ?_, fun g' hg' => ?_, fun x y h => ?_⟩
  · rw [hold q.1 (by rw [H.keys]; exact List.mem_append_left _ (List.of_mem_zip hq).1)]
    exact H.sv q hq
  · rcases List.mem_append.mp hg' with h1 | h1
    · obtain ⟨a, b, c⟩ := H.gt g' h1
      refine ⟨a, fun x hx => by rw [hk]; exact List.mem_append_left _ (b x hx), ?_⟩
      rw [hold g'.l (get_key c), c]
      exact congrArg some (eqn_congr fun x hx => (hold x (b x hx)).symm)
    · cases List.mem_singleton.mp h1
      refine ⟨hg, fun x hx => by rw [hk]; exact List.mem_append_left _ (hp x hx), ?_⟩
      show getV (putV m g.l _) g.l = _
      rw [getV_put, if_pos rfl]
      exact congrArg some (eqn_congr fun x hx => (hold x (hp x hx)).symm)
  · have h : getV (putV m g.l (eqn v fs m g)) x = some y := h
    rw [getV_put] at h
    split at h
    · cases h
      exact eqn_bit W hv H.bt hf hg
    · exact H.bt x y h
theorem nodup_inj : ∀ {l : List Gt}, (l.map Gt.l).Nodup → ∀ a ∈ l, ∀ b ∈ l, a.l = b.l → a = b
  | [], _, _, ha, _, _, _ => nomatch ha
  | x :: l, hn, a, ha, b, hb, e => by
    rw [List.map_cons, List.nodup_cons] at hn
    rcases List.mem_cons.mp ha with h1 | h1
    · rcases List.mem_cons.mp hb with h2 | h2
      · rw [h1, h2]
      · exact absurd (by rw [← h1, e]; exact List.mem_map_of_mem h2) hn.1
    · rcases List.mem_cons.mp hb with h2 | h2
      · exact absurd (by rw [← h2, ← e]; exact List.mem_map_of_mem h1) hn.1
      · exact nodup_inj hn.2 a h1 b h2 e
theorem Wf.gl_inj {p : CV} (W : Wf p) {g g' : Gt} (h : g ∈ p.1.gs) (h' : g' ∈ p.1.gs) (e : g.l = g'.l) : g = g' := nodup_inj (List.nodup_append.mp W.nd).2.1 g h g' h' e
/-- two ways to settle all agree -/
theorem Part.uniq {p : CV} (W : Wf p) {v : Ver} {fs : Mpv} {pat : List Int} (hl : pat.length = (src p).length) {dn dn' : List Gt} {m m' : Mpv} (H : Part p v fs pat dn m) (H' : Part p v fs pat dn' m') (h : ∀ g ∈ p.1.gs, g.l ∈ m.map Prod.fst) (h' : ∀ g ∈ p.1.gs, g.l ∈ m'.map Prod.fst) : ∀ x ∈ lin p, getV m x = getV m' x := by
  have hs : ∀ x ∈ src p, getV m x = getV m' x := fun x hx => by
    obtain ⟨i, hi, hxi⟩ := List.getElem_of_mem hx
    have hq : (x, pat[i]'(by omega)) ∈ (src p).zip pat := List.mem_of_getElem? (i := i) (by
      rw [List.getElem?_zip_eq_some]
      exact ⟨by rw [List.getElem?_eq_getElem hi, hxi], List.getElem?_eq_getElem _⟩)
    rw [H.sv _ hq, H'.sv _ hq]
  have own : ∀ {dn : List Gt} {m : Mpv}, Part p v fs pat dn m → (∀ g ∈ p.1.gs, g.l ∈ m.map Prod.fst) → ∀ g ∈ p.1.gs, getV m g.l = some (eqn v fs m g) := fun {dn m} H h g hg => by
    have := h g hg
    rw [H.keys] at this
    rcases List.mem_append.mp this with h1 | h1
    · exact absurd (List.mem_map_of_mem hg) fun z => (List.nodup_append.mp W.nd).2.2 _ h1 _ z rfl
    · obtain ⟨g', hg', e⟩ := List.mem_map.mp h1
      have := W.gl_inj (H.gt g' hg').1 hg e
      subst this
      exact (H.gt g' hg').2.2
  have hg : ∀ (post pre : List Gt), p.2 = pre ++ post → (∀ g ∈ pre, getV m g.l = getV m' g.l) → ∀ g ∈ p.2, getV m g.l = getV m' g.l := by
    intro post
    induction post with
    | nil => intro pre e hpre; rw [e, List.append_nil]; exact hpre
    | cons g post ih =>
      intro pre e hpre
      refine ih (pre ++ [g]) (by rw [e]; simp) fun g' hg' => ?_
      rcases List.mem_append.mp hg' with h1 | h1
      · exact hpre g' h1
      · cases List.mem_singleton.mp h1
        have hm : g ∈ p.1.gs := W.perm.subset (e ▸ List.mem_append_right _ List.mem_cons_self)
        rw [own H h g hm, own H' h' g hm]
        refine congrArg some (eqn_congr fun x hx => ?_)
        rcases W.od pre g post e x hx with h2 | h2
        · exact hs x h2
        · obtain ⟨g2, hg2, rfl⟩ := List.mem_map.mp h2
          exact hpre g2 hg2
  intro x hx
  rcases List.mem_append.mp hx with h1 | h1
  · exact hs x h1
  · obtain ⟨g, hg1, rfl⟩ := List.mem_map.mp h1
    exact hg p.2 [] rfl (fun g h => nomatch h) g (W.perm.mem_iff.mpr hg1)
end
end CC
set_option maxHeartbeats 1000000
namespace CC
open PySem PySem.Spec PyProof.Rows L2 Qw Mw RZ
open Evl hiding ea_cons
open Pw (Dt Rp RpL Wk R2d R1d RLd RLn Kq KqL spX2 Xm Xm0 cr_int cr_min2 cr_max2 cr_list cr_tuple rTupS cr_len pe_globI pe_globS pe_globR pe_tyname)
section
theorem ne_pin1 : ¬ ("stem" : Str) = "pin" := by decide +kernel
theorem ne_pin2 : ¬ ("short" : Str) = "pin" := by decide +kernel
theorem ne_stem2 : ¬ ("short" : Str) = "stem" := by decide +kernel
theorem lit_ok : okStr "pin" = true ∧ okStr "stem" = true ∧ okStr "short" = true := by decide +kernel
def pinAt (v : Ver) (l : Str) : Bool := match v with
  | .pin l' _ _ => decide (l' = l)
  | _ => false
def vnames : Ver → List Str
  | .ok => []
  | .stem l _ => [l]
  | .pin l _ _ => [l]
  | .short a b _ => [a, b]
theorem fit_lin {p : CV} {v : Ver} (hv : v.fit p) : ∀ x ∈ vnames v, x ∈ lin p := fun x hx => by
  cases v with
  | ok => cases hx
  | stem l b => cases List.mem_singleton.mp hx; exact hv.1
  | pin l j b =>
    cases List.mem_singleton.mp hx
    obtain ⟨⟨g, hg, rfl, _⟩, _⟩ := hv
    exact lin_gs hg
  | short a b k =>
    rcases List.mem_cons.mp hx with rfl | hx
    · exact hv.1
    · cases List.mem_singleton.mp hx
      exact hv.2.1
theorem asMap_any : ∀ xs : List Dt, asMap some xs = some xs
  | [] => rfl
  | x :: xs => by simp [asMap, asMap_any xs]
theorem asT_any (xs : List Dt) : (asT some) (.tup xs) = some xs := asMap_any xs
theorem two (a b c : Dt) (r : List Dt) : cutR (a :: b :: c :: r) none (some (2 : Int)) = [a, b] := cutR_to (k := 2)
theorem pinC {p : CV} (W : Wf p) {v : Ver} (hv : v.fit p) {l : Str} (hl : l ∈ lin p) : (if (!isNonD v.d) = true then (R.bind (R.bind (R.bind (R.bind (R.ofO ((asT some) v.d)) fun t_24 => R.ok (cutR t_24 none (some (2 : Int)))) fun t_25 => R.ok ((eT eD) t_25)) fun t_26 => R.ofO ((asT asS) t_26)) fun t_27 => (eqSR (fun xs => xs.all okStr) t_27 ([("pin" : Str), l] : (List Str)))) else R.ok false) = .ok (pinAt v l) := by
  have hn : ∀ x ∈ vnames v, okStr x = true := fun x hx => (W.nm x (fit_lin hv x hx)).2.1
  have hx : okStr l = true := (W.nm l hl).2.1
  have fin : ∀ (a b c : Str) (r : List Dt) (z : Dt), okStr a = true → okStr b = true → (R.bind (R.bind (R.bind (R.bind (R.ofO ((asT some) (.tup (.str a :: .str b :: z :: r)))) fun t_24 => R.ok (cutR t_24 none (some (2 : Int)))) fun t_25 => R.ok ((eT eD) t_25)) fun t_26 => R.ofO ((asT asS) t_26)) fun t_27 => (eqSR (fun xs => xs.all okStr) t_27 ([("pin" : Str), l] : (List Str)))) = .ok (decide (([a, b] : List Str) = ([("pin" : Str), l] : List Str))) := fun a b c r z ha hb => by
    have h1 : (asT some) (Dt.tup (.str a :: .str b :: z :: r)) = some (.str a :: .str b :: z :: r) := asT_any _
    rw [h1]
    simp only [ofO_some, R.bind_ok, two]
    have h3 : (asT asS) ((eT eD) [.str a, .str b]) = some [a, b] := rfl
    rw [h3]
    simp only [ofO_some, R.bind_ok]
    unfold eqSR
    rw [R.need_pos]
    simp [ha, hb, hx, lit_ok.1]
  cases v with
  | ok => rfl
  | stem a b =>
    refine (if_pos rfl).trans ((fin "stem" a a _ _ lit_ok.2.1 (hn a List.mem_cons_self)).trans ?_)
    rw [decide_eq_false fun z => ne_pin1 (List.cons.inj z).1]
    rfl
  | pin a j b =>
    refine (if_pos rfl).trans ((fin "pin" a a _ _ lit_ok.1 (hn a List.mem_cons_self)).trans ?_)
    congr 1
    exact decide_eq_decide.mpr (by simp)
  | short a b k =>
    refine (if_pos rfl).trans ((fin "short" a a _ _ lit_ok.2.2 (hn a List.mem_cons_self)).trans ?_)
    rw [decide_eq_false fun z => ne_pin2 (List.cons.inj z).1]
    rfl
theorem pinSet {p : CV} (W : Wf p) {v : Ver} (hv : v.fit p) {g : Gt} (hg : g ∈ p.1.gs) {bs : List Int} (hb : bs.length = g.ps.length) : (if pinAt v g.l = true then (R.bind (R.bind (R.bind (R.ofO ((asT some) v.d)) fun t_30 => (ixR t_30 (3 : Int))) fun t_31 => R.ofO (asI t_31)) fun t_34 => R.bind (R.bind (R.bind (R.ofO ((asT some) v.d)) fun t_32 => (ixR t_32 (2 : Int))) fun t_33 => R.ofO (asI t_33)) fun t_35 => R.bind (setR bs t_35 t_34) fun bits_36 => (R.ok (Ctl.nx bits_36) : R (Ctl (List Int) (List (Str × Int)) (List (Str × Int))))) else (R.ok (Ctl.nx bs))) = .ok (.nx (sub v g.l bs)) := by
  cases h : pinAt v g.l with
  | false =>
    rw [if_neg (by simp)]
    cases v with
    | pin l j b =>
      have h : ¬ l = g.l := of_decide_eq_false h
      simp [sub, h]
    | _ => rfl
  | true =>
    rw [if_pos rfl]
    cases v with
    | pin l j b =>
      have h : l = g.l := of_decide_eq_true h
      have h1 : (asT some) (Ver.pin l j b).d = some [.str "pin", .str l, .int (j : Int), .int b] := rfl
      rw [h1]
      simp only [ofO_some, R.bind_ok]
      rw [ixR_ok (xs := [Dt.str "pin", .str l, .int (j : Int), .int b]) (i := 3) (j := 3) (a := Dt.int b) rfl rfl, ixR_ok (xs := [Dt.str "pin", .str l, .int (j : Int), .int b]) (i := 2) (j := 2) (a := Dt.int (j : Int)) rfl rfl]
      simp only [ofO_some, R.bind_ok, show asI (.int b) = some b from rfl, show asI (.int (j : Int)) = some (j : Int) from rfl]
      obtain ⟨⟨g', hg', e', hj⟩, _⟩ := hv
      have := W.gl_inj hg' hg (e'.trans h)
      subst this
      rw [setR_ok (by omega) (by omega)]
      simp [sub, h]
    | ok => cases h
    | stem => cases h
    | short => cases h
structure SrcI (fs : Mpv) (L : List (Str × Int)) (m : Mpv) : Prop where
  keys : m.map Prod.fst = L.map Prod.fst
  sv : ∀ q ∈ L, getV m q.1 = some ((getV fs q.1).getD q.2)
  bt : bitM m
theorem SrcI.step {fs L m : Mpv} (H : SrcI fs L m) (hf : bitM fs) {q : Str × Int} (hb : bit q.2) (hn : ¬ q.1 ∈ L.map Prod.fst) : SrcI fs (L ++ [q]) (putV m q.1 ((getV fs q.1).getD q.2)) := by
  refine ⟨?_, fun q' hq' => ?_, fun x y h => ?_⟩
  · rw [put_keysN (by rw [H.keys]; exact hn), H.keys]
    simp
  · rcases List.mem_append.mp hq' with h1 | h1
    · rw [get_putN fun e => hn (by rw [e]; exact List.mem_map_of_mem h1)]
      exact H.sv q' h1
    · cases List.mem_singleton.mp h1
      rw [getV_put, if_pos rfl]
  · rw [getV_put] at h
    split at h
    · cases h
      cases e : getV fs q.1 with
      | none => exact hb
      | some z => exact hf _ z e
    · exact H.bt x y h
theorem SrcI.nil {fs : Mpv} : SrcI fs [] [] := ⟨rfl, (fun q h => nomatch h), (fun x y h => nomatch h)⟩
theorem zip_fst {p : CV} {pat : List Int} (hl : pat.length = (src p).length) : ((src p).zip pat).map Prod.fst = src p := List.map_fst_zip (by omega)
theorem SrcI.part {p : CV} {v : Ver} {fs m : Mpv} {pat : List Int} (hl : pat.length = (src p).length) (H : SrcI fs ((src p).zip pat) m) : Part p v fs pat [] m := ⟨by rw [H.keys, zip_fst hl]; simp, H.sv, (fun g h => nomatch h), H.bt⟩
theorem src_le {p : CV} (W : Wf p) : (src p).length ≤ 60 := Nat.le_trans (by simp [lin, linesOf, src]) W.len
theorem Wf.src_nd {p : CV} (W : Wf p) : (src p).Nodup := (List.nodup_append.mp W.nd).1
theorem keys_len {m : Mpv} : (m.map Prod.fst).length = m.length := List.length_map _
theorem Part.len {p : CV} (W : Wf p) {v : Ver} {fs m : Mpv} {pat : List Int} {dn : List Gt} (H : Part p v fs pat dn m) (hd : (dn.map Gt.l).Nodup) : m.length < 100000 := by
  have h1 : dn.length ≤ p.1.gs.length := by
    have : (dn.map Gt.l).length ≤ (p.1.gs.map Gt.l).length := List.Nodup.length_le_of_subset hd fun x hx => by
      obtain ⟨g, hg, rfl⟩ := List.mem_map.mp hx
      exact List.mem_map_of_mem (H.gt g hg).1
    simpa using this
  have h2 := W.len
  simp only [lin, linesOf, List.length_append, List.length_map] at h2
  rw [← keys_len, H.keys, List.length_append, List.length_map]
  have h3 : (src p).length = (srcOf p.1.is p.1.rs).length := rfl
  omega
theorem pv_got {m : Mpv} {ps : List Str} (h : ∀ x ∈ ps, x ∈ m.map Prod.fst) : ∀ x ∈ ps, getR m x = .ok ((getV m x).getD 0) := fun x hx => by
  obtain ⟨y, e⟩ := key_get (h x hx)
  unfold getR
  rw [e]
  rfl
theorem ord_nd {p : CV} (W : Wf p) : (p.2.map Gt.l).Nodup := ((W.perm.map Gt.l).nodup_iff).mpr (List.nodup_append.mp W.nd).2.1
end
end CC
set_option maxHeartbeats 1000000
namespace CC
open PySem PySem.Spec PyProof.Rows L2 Qw Mw RZ
open Evl hiding ea_cons
open Pw (Dt Rp RpL Wk R2d R1d RLd RLn Kq KqL spX2 Xm Xm0 cr_int cr_min2 cr_max2 cr_list cr_tuple rTupS cr_len pe_globI pe_globS pe_globR pe_tyname)
section
structure Good (p : CV) (m : Mpv) : Prop where
  keys : (m.map Prod.fst).Perm (lin p)
  bt : bitM m
theorem Part.good {p : CV} (W : Wf p) {v : Ver} {fs m : Mpv} {pat : List Int} (H : Part p v fs pat p.2 m) : Good p m := ⟨by
  rw [H.keys]
  exact List.Perm.append_left _ (W.perm.map _), H.bt⟩
theorem Part.all {p : CV} (W : Wf p) {v : Ver} {fs m : Mpv} {pat : List Int} (H : Part p v fs pat p.2 m) : ∀ g ∈ p.1.gs, g.l ∈ m.map Prod.fst := fun g hg => H.good W |>.keys.mem_iff.mpr (lin_gs hg)
theorem get_lin {p : CV} {m : Mpv} (H : Good p m) {x : Str} (h : x ∈ lin p) : ∃ y, getV m x = some y ∧ bit y := by
  obtain ⟨y, e⟩ := key_get (H.keys.mem_iff.mpr h)
  exact ⟨y, e, H.bt x y e⟩
theorem bitM_nil : bitM [] := fun x y h => nomatch h
theorem ne_of_lt {a b : Str} (h : ltS a b = true) : a ≠ b := fun e => by
  subst e
  rw [show ltS a a = false from Mw.ltS_irr a] at h
  cases h
theorem head0 {α : Type} {a : α} {r : List α} : ixR (a :: r) 0 = .ok a := ixR_ok (j := 0) rfl rfl
theorem head1 {α : Type} {a b : α} {r : List α} : ixR (a :: b :: r) 1 = .ok b := ixR_ok (j := 1) rfl rfl
theorem head2 {α : Type} {a b c : α} {r : List α} : ixR (a :: b :: c :: r) 2 = .ok c := ixR_ok (j := 2) rfl rfl
theorem asS_str {x : Str} : asS (.str x) = some x := rfl
theorem asI_int {x : Int} : asI (.int x) = some x := rfl
/-- the lines that a version forces -/
def fl : Ver → List Str
  | .stem l _ => [l]
  | .short a b _ => [a, b]
  | _ => []
def fz (v : Ver) (c : Int) : Mpv := (fl v).map fun x => (x, c)
theorem getV_map {α : Type} {c : α} : ∀ {l : List Str} {x : Str}, getV (l.map fun y => (y, c)) x = if x ∈ l then some c else none
  | [], x => rfl
  | y :: l, x => by
    have ih := getV_map (c := c) (l := l) (x := x)
    unfold getV at *
    rw [List.map_cons, List.find?_cons]
    by_cases h : y = x
    · rw [show decide ((y, c).1 = x) = true from decide_eq_true h, if_pos (by rw [h]; exact List.mem_cons_self)]
      rfl
    · rw [show decide ((y, c).1 = x) = false from decide_eq_false h]
      rw [ih]
      by_cases hm : x ∈ l
      · rw [if_pos hm, if_pos (List.mem_cons_of_mem _ hm)]
      · rw [if_neg hm, if_neg fun z => (List.mem_cons.mp z).elim (fun z => h z.symm) hm]
theorem fz_get {v : Ver} {c : Int} {x : Str} : getV (fz v c) x = if x ∈ fl v then some c else none := getV_map
theorem fz_bit {v : Ver} {c : Int} (h : bit c) : bitM (fz v c) := fun x y e => by
  rw [fz_get] at e
  split at e
  · cases e; exact h
  · cases e
theorem put_two {α : Type} {a b : Str} {c : α} (h : a ≠ b) : putV [(a, c)] b c = [(a, c), (b, c)] := by
  unfold putV
  rw [if_neg (by simp [h])]
  rfl
/-- the values, in the circuit's own order -/
def ini (p : CV) (fs : Mpv) (pat : List Int) : Mpv := ((src p).zip pat).map fun q => (q.1, (getV fs q.1).getD q.2)
theorem get_mapq {h : Str × Int → Int} : ∀ {l : List (Str × Int)} {q : Str × Int}, (l.map Prod.fst).Nodup → q ∈ l → getV (l.map fun q => (q.1, h q)) q.1 = some (h q)
  | [], _, _, z => nomatch z
  | a :: l, q, hn, z => by
    rw [List.map_cons, List.nodup_cons] at hn
    unfold getV
    rw [List.map_cons, List.find?_cons]
    rcases List.mem_cons.mp z with z | z
    · subst z
      rw [decide_eq_true rfl]
      rfl
    · have : ¬ a.1 = q.1 := fun e => hn.1 (by rw [e]; exact List.mem_map_of_mem z)
      rw [decide_eq_false this]
      exact get_mapq hn.2 z
theorem ini_keys {p : CV} {fs : Mpv} {pat : List Int} (hl : pat.length = (src p).length) : (ini p fs pat).map Prod.fst = src p := by
  unfold ini
  rw [List.map_map]
  exact zip_fst hl
theorem ini_part {p : CV} (W : Wf p) {v : Ver} {fs : Mpv} {pat : List Int} (hl : pat.length = (src p).length) (hb : ∀ b ∈ pat, bit b) (hf : bitM fs) : Part p v fs pat [] (ini p fs pat) := by
  refine ⟨by rw [ini_keys hl]; simp, fun q hq => ?_, fun g h => (nomatch h), fun x y h => ?_⟩
  · exact get_mapq (h := fun q => (getV fs q.1).getD q.2) (by rw [zip_fst hl]; exact W.src_nd) hq
  · have hx := get_key h
    unfold ini at hx
    rw [List.map_map] at hx
    obtain ⟨q, hq, rfl⟩ := List.mem_map.mp hx
    have e := get_mapq (h := fun q => (getV fs q.1).getD q.2) (l := (src p).zip pat) (by rw [zip_fst hl]; exact W.src_nd) hq
    have h' : getV (ini p fs pat) q.1 = some y := h
    unfold ini at h'
    rw [e] at h'
    cases h'
    cases e2 : getV fs q.1 with
    | none => exact hb q.2 (List.of_mem_zip hq).2
    | some z => exact hf _ z e2
def fin0 (p : CV) (v : Ver) (fs : Mpv) (pat : List Int) : Mpv := p.2.foldl (stp v fs) (ini p fs pat)
theorem fold_part {p : CV} (W : Wf p) {v : Ver} (hv : v.fit p) {fs : Mpv} {pat : List Int} (hf : bitM fs) : ∀ (post pre : List Gt) (m : Mpv), p.2 = pre ++ post → Part p v fs pat pre m → Part p v fs pat p.2 (post.foldl (stp v fs) m)
  | [], pre, m, e, H => by rw [List.append_nil] at e; rw [e]; exact H
  | g :: post, pre, m, e, H => by
    rw [List.foldl_cons]
    have hg : g ∈ p.1.gs := W.perm.subset (by rw [e]; simp)
    have nd := W.nd
    have hn : ¬ g.l ∈ m.map Prod.fst := fun z => by
      rw [H.keys] at z
      rcases List.mem_append.mp z with z | z
      · exact (List.nodup_append.mp nd).2.2 g.l z g.l (List.mem_map_of_mem hg) rfl
      · have n2 := ord_nd W
        rw [e, List.map_append, List.map_cons] at n2
        exact (List.nodup_append.mp n2).2.2 g.l z g.l List.mem_cons_self rfl
    have hp : ∀ x ∈ g.ps, x ∈ m.map Prod.fst := fun x hx => by
      rw [H.keys]
      exact List.mem_append.mpr (W.od pre g post e x hx)
    exact fold_part W hv hf post (pre ++ [g]) _ (by rw [e]; simp) (H.step W hv hf hg hn hp)
theorem fin0_part {p : CV} (W : Wf p) {v : Ver} (hv : v.fit p) {fs : Mpv} {pat : List Int} (hl : pat.length = (src p).length) (hb : ∀ b ∈ pat, bit b) (hf : bitM fs) : Part p v fs pat p.2 (fin0 p v fs pat) :=
  fold_part W hv hf p.2 [] _ rfl (ini_part W hl hb hf)
/-- the value of the forced lines -/
def cst (p : CV) (v : Ver) (pat : List Int) : Int := match v with
  | .stem _ b => b
  | .short a b k => gv k [(getV (fin0 p .ok [] pat) a).getD 0, (getV (fin0 p .ok [] pat) b).getD 0]
  | _ => 0
def vm (_ : Nat) (p : CV) (v : Ver) (pat : List Int) : Mpv := fin0 p v (fz v (cst p v pat)) pat
theorem cst_bit {p : CV} {v : Ver} (hv : v.fit p) {pat : List Int} : bit (cst p v pat) := by
  cases v with
  | stem l b => exact hv.2
  | short a b k => exact gv_bit _ _
  | ok => exact .inl rfl
  | pin l j b => exact .inl rfl
theorem v1_ok {p : CV} (W : Wf p) {pat : List Int} (hl : pat.length = (src p).length) (hb : ∀ b ∈ pat, bit b) : True ∧ Part p .ok [] pat p.2 (vm 1 p .ok pat) :=
  ⟨trivial, fin0_part W (v := .ok) trivial hl hb bitM_nil⟩
theorem v2_ok {p : CV} (W : Wf p) {v : Ver} (hv : v.fit p) {pat : List Int} (hl : pat.length = (src p).length) (hb : ∀ b ∈ pat, bit b) : True ∧ Part p v (fz v (cst p v pat)) pat p.2 (vm 2 p v pat) ∧ bit (cst p v pat) :=
  ⟨trivial, fin0_part W hv hl hb (fz_bit (cst_bit hv)), cst_bit hv⟩
theorem kind_ok {k : Str} (h : k = "and" ∨ k = "or") : k ∈ KIN ∧ mayHave k 2 = true := by
  rcases h with rfl | rfl <;> decide +kernel
def outs (p : CV) (m : Mpv) : List Int := (sinkOf p.1.os p.1.rs).map fun x => (getV m x).getD 0
theorem sk_len {p : CV} (W : Wf p) : (sinkOf p.1.os p.1.rs).length ≤ 40000 := by
  have h1 := W.ok.2.1
  have h2 := W.ok.2.2.2.1
  unfold sinkOf
  rw [List.length_append, List.length_map]
  omega
theorem sk_get {p : CV} (W : Wf p) {m : Mpv} (h : Good p m) : ∀ x ∈ sinkOf p.1.os p.1.rs, getR m x = .ok ((getV m x).getD 0) := fun x hx => by
  obtain ⟨y, e, _⟩ := get_lin h (W.sk x hx)
  unfold getR
  rw [e]
  rfl
end
end CC
set_option maxHeartbeats 1000000
namespace CC
open PySem PySem.Spec PyProof.Rows L2 Qw Mw RZ
open Evl hiding ea_cons
open Pw (Dt Rp RpL Wk R2d R1d RLd RLn Kq KqL spX2 Xm Xm0 cr_int cr_min2 cr_max2 cr_list cr_tuple rTupS cr_len pe_globI pe_globS pe_globR pe_tyname)
section
theorem gv_prog_table : (KIN.all fun k => (bl 4).all fun bs => !mayHave k bs.length || (match m_gate_value k bs with | .ok z => decide (z = gv k bs) | _ => false)) = true := by decide +kernel
theorem gv_prog {k : Str} {bs : List Int} (hk : k ∈ KIN) (hm : mayHave k bs.length = true) (h4 : bs.length ≤ 4) (hb : ∀ b ∈ bs, bit b) : m_gate_value k bs = .ok (gv k bs) := by
  have := List.all_eq_true.mp (List.all_eq_true.mp gv_prog_table k hk) bs (mem_bl 4 bs h4 hb)
  rw [hm] at this
  simp only [Bool.not_true, Bool.false_or] at this
  cases e : m_gate_value k bs with
  | ok z => rw [e] at this; rw [of_decide_eq_true this]
  | ex x => rw [e] at this; cases this
  | no => rw [e] at this; cases this
theorem u_ok {p : CV} (W : Wf p) {v : Ver} (hv : v.fit p) {mf : CV → Dt → List Int → R Mpv} {fs : Mpv} {pat : List Int} (hl : pat.length = (src p).length) (hb : ∀ b ∈ pat, bit b) (hf : bitM fs) (e : mf p v.d pat = .ok fs) : Holds ((b_u_values mf p v.d pat).fin) (Part p v fs pat p.2) := by
  unfold b_u_values
  simp only [R.bind_ok, e, R.nox_ok, m_Circuit_sources]
  rw [R.need_pos W.ok]
  simp only [R.bind_ok, R.nox_ok]
  rw [holds_fin, holds_bindC]
  have hzn : (((src p).zip pat).map Prod.fst).Nodup := by rw [zip_fst hl]; exact W.src_nd
  refine holds_forD (fun m pre => SrcI fs pre m) _ _ SrcI.nil (fun m pre q post eq H => ?_) (fun m H => ?_)
  · have hq : q ∈ (src p).zip pat := by
      show q ∈ List.zip (srcOf p.1.is p.1.rs) pat
      rw [eq]; simp
    have hn : ¬ q.1 ∈ pre.map Prod.fst := by
      have eq : (src p).zip pat = pre ++ q :: post := eq
      rw [eq, List.map_append, List.map_cons] at hzn
      exact fun h => (List.nodup_append.mp hzn).2.2 _ h _ List.mem_cons_self rfl
    have hlen : m.length < 100000 := by
      have h1 : m.length = pre.length := by rw [← keys_len, H.keys, List.length_map]
      have h2 : pre.length ≤ ((src p).zip pat).length := by
        show _ ≤ (List.zip (srcOf p.1.is p.1.rs) pat).length
        rw [eq]; simp
      have h3 := src_le W
      simp only [List.length_zip] at h2
      omega
    rw [R.need_pos hlen, holds_ok, onF_nx]
    exact H.step hf (hb _ (List.of_mem_zip hq).2) hn
  · rw [onC_nx, holds_bindC]
    refine holds_forD (fun m pre => Part p v fs pat pre m) _ _ (H.part hl) (fun m pre g post eq H => ?_) (fun m H => ?_)
    · have hg : g ∈ p.1.gs := W.perm.subset (eq ▸ List.mem_append_right _ List.mem_cons_self)
      have hnd := ord_nd W
      rw [eq, List.map_append, List.map_cons] at hnd
      have hn : ¬ g.l ∈ m.map Prod.fst := by
        rw [H.keys]
        intro h
        rcases List.mem_append.mp h with h | h
        · exact (List.nodup_append.mp W.nd).2.2 _ h _ (List.mem_map_of_mem hg) rfl
        · exact (List.nodup_append.mp hnd).2.2 _ h _ List.mem_cons_self rfl
      have hp : ∀ x ∈ g.ps, x ∈ m.map Prod.fst := fun x hx => by
        rw [H.keys]
        rcases W.od pre g post eq x hx with h | h
        · exact List.mem_append_left _ h
        · exact List.mem_append_right _ h
      have hlen := H.len W (List.nodup_append.mp hnd).1
      have hps : g.ps.length ≤ 4 := W.ok.2.2.2.2 g hg
      refine Holds.of (a := .nx (stp v fs m g)) ?_ (onF_nx.mpr (H.step W hv hf hg hn hp))
      rw [R.lcR_mapOn (v := fun x => (getV m x).getD 0) (by omega) (pv_got hp)]
      simp only [R.nox_ok, R.bind_ok]
      rw [pinC W hv (lin_gs hg)]
      simp only [R.bind_ok]
      have hs := pinSet W hv hg (bs := pvs m g.ps) pv_len
      show R.bindC (if pinAt v g.l = true then _ else _) _ = _
      rw [show (g.ps.map fun x => (getV m x).getD 0) = pvs m g.ps from rfl, hs]
      rw [R.bindC_nx, gv_prog (W.kd g hg).1 (by rw [sub_len, pv_len]; exact (W.kd g hg).2) (by rw [sub_len, pv_len]; exact hps) (sub_bits hv (pv_bits H.bt))]
      simp only [R.nox_ok, R.bind_ok]
      rw [R.need_pos hlen]
      rfl
    · rw [onC_nx, holds_ok, onR_rt]
      exact H
theorem u2_ok {p : CV} (W : Wf p) {v : Ver} (hv : v.fit p) {pat : List Int} (hl : pat.length = (src p).length) (hb : ∀ b ∈ pat, bit b) : Holds (m_u_values 2 p v.d pat) (Part p v (fz v (cst p v pat)) pat p.2) := by
  have hu : m_u_values 2 p v.d pat = (b_u_values (fun c v q => (b_forced (m_u_values 1) c v q).fin) p v.d pat).fin := rfl
  rw [hu]
  have key : ∀ {fs : Mpv}, bitM fs → fs = fz v (cst p v pat) → (b_forced (m_u_values 1) p v.d pat).fin = .ok fs → Holds ((b_u_values (fun c v q => (b_forced (m_u_values 1) c v q).fin) p v.d pat).fin) (Part p v (fz v (cst p v pat)) pat p.2) := fun hf e1 e2 => by
    subst e1
    exact u_ok W hv hl hb hf (mf := fun c v q => (b_forced (m_u_values 1) c v q).fin) e2
  have hbit := fz_bit (v := v) (cst_bit (pat := pat) hv)
  cases v with
  | ok => exact key bitM_nil rfl rfl
  | stem l b =>
    refine key hbit rfl ?_
    unfold b_forced Ver.d
    simp only [R.bind_ok, isNonD, asT_any, ofO_some, head0, asS_str, Bool.false_eq_true, if_false]
    rw [decide_eq_false ne_pin1]
    simp only [R.bind_ok, Bool.false_eq_true, if_false]
    simp only [decide_true, R.bind_ok, if_true, head1, head2, ofO_some, asS_str, asI_int, R.nox_ok]
    rfl
  | pin l j b =>
    refine key hbit rfl ?_
    unfold b_forced Ver.d
    simp only [R.bind_ok, isNonD, asT_any, ofO_some, head0, asS_str, Bool.false_eq_true, if_false]
    rfl
  | short a b k =>
    refine key hbit rfl ?_
    obtain ⟨q, u1, H1⟩ := (u_ok W (v := .ok) trivial hl hb bitM_nil (mf := fun c v q => (b_forced (m_u_values 0) c v q).fin) (fs := []) rfl).ex
    have hv1 := v1_ok W hl hb
    have G1 := H1.good W
    have G2 := hv1.2.good W
    have same := Part.uniq W hl H1 hv1.2 (H1.all W) (hv1.2.all W)
    obtain ⟨ha, hbl, hk, hlt, h5, h6⟩ := hv
    obtain ⟨x, hx, bx⟩ := get_lin G1 ha
    obtain ⟨y, hy, by_⟩ := get_lin G1 hbl
    have hx' : getV (vm 1 p .ok pat) a = some x := by rw [← same a ha]; exact hx
    have hy' : getV (vm 1 p .ok pat) b = some y := by rw [← same b hbl]; exact hy
    have hc : cst p (.short a b k) pat = gv k [x, y] := by
      show gv k (pvs (vm 1 p .ok pat) [a, b]) = _
      unfold pvs
      simp only [List.map_cons, List.map_nil]
      rw [hx', hy']
      rfl
    have hgv : m_gate_value k [x, y] = .ok (gv k [x, y]) := gv_prog (kind_ok hk).1 (kind_ok hk).2 (by simp) fun z hz => by
      rcases List.mem_cons.mp hz with rfl | hz
      · exact bx
      · rw [List.mem_singleton.mp hz]; exact by_
    unfold b_forced Ver.d
    simp only [R.bind_ok, isNonD, asT_any, ofO_some, head0, asS_str, Bool.false_eq_true, if_false]
    rw [decide_eq_false ne_pin2]
    simp only [R.bind_ok, Bool.false_eq_true, if_false]
    rw [decide_eq_false ne_stem2]
    rw [show m_u_values 1 p (eU ()) pat = .ok q from u1]
    simp only [R.bind_ok, R.nox_ok, Bool.false_eq_true, if_false, asP4, Option.bind_some, Option.map_some, ofO_some, asS_str]
    unfold getR
    rw [hx, hy]
    simp only [R.bind_ok, ofO_some]
    rw [hgv]
    simp only [R.bind_ok, R.nox_ok]
    rw [hc]
    have := put_two (c := gv k [x, y]) (ne_of_lt hlt)
    show R.ok (putV [(a, gv k [x, y])] b (gv k [x, y])) = _
    rw [this]
    rfl
theorem okS_name {p : CV} (W : Wf p) {x : Str} (h : x ∈ lin p) : okS (.str x) = true := decide_eq_true (by have := (W.nm x h).2.2; omega)
theorem isLine_lin {p : CV} (W : Wf p) {x : Str} (h : x ∈ lin p) : isLine (linesOf p.1.is p.1.rs p.1.gs) (.str x) = true := by
  have h1 := (W.nm x h).1
  show (nameB x && decide (x ∈ linesOf p.1.is p.1.rs p.1.gs)) = true
  rw [h1, decide_eq_true h]
  rfl
theorem isInt_bit {b : Int} (h : bit b) : isInt (.int b) 0 1 = true := by
  rcases h with rfl | rfl <;> rfl
theorem fit_okV {p : CV} (W : Wf p) {v : Ver} (hv : v.fit p) : okV v.d = true := by
  have hn : ∀ x ∈ vnames v, okS (.str x) = true := fun x hx => okS_name W (fit_lin hv x hx)
  have hw : ∀ x ∈ (["stem", "pin", "short", "and", "or"] : List Str), okS (.str x) = true := by decide +kernel
  cases v with
  | ok => rfl
  | stem l b =>
    show (decide (3 ≤ 1000) && (okS (.str "stem") && (okS (.str l) && (okS (.int b) && true)))) = true
    rw [hw "stem" (by simp), hn l (by simp [vnames])]
    rfl
  | pin l j b =>
    show (decide (4 ≤ 1000) && (okS (.str "pin") && (okS (.str l) && (okS (.int (j : Int)) && (okS (.int b) && true))))) = true
    rw [hw "pin" (by simp), hn l (by simp [vnames])]
    rfl
  | short a b k =>
    show (decide (4 ≤ 1000) && (okS (.str "short") && (okS (.str a) && (okS (.str b) && (okS (.str k) && true))))) = true
    rw [hw "short" (by simp), hn a (by simp [vnames]), hn b (by simp [vnames]), hw k (by rcases hv.2.2.1 with rfl | rfl <;> simp)]
    rfl
theorem isPin_of {gs : List Gt} {x : Str} {i b : Dt} {g : Gt} (hf : (gs.find? fun g => decide (g.l = x)) = some g) : isPin gs (.str x) i b = (nameB x && (isInt i 0 ((g.ps.length : Int) - 1) && isInt b 0 1)) := by
  show (nameB x && (match gs.find? fun g => decide (g.l = x) with
    | some g => isInt i 0 ((g.ps.length : Int) - 1) && isInt b 0 1
    | none => false)) = _
  rw [hf]
theorem brk_pin (c : Cp) (a b d : Dt) : isBrk c (.tup [.str "pin", a, b, d]) = isPin c.gs a b d := by
  show (if ("pin" : Str) = "pin" then isPin c.gs a b d else decide (("pin" : Str) = "short") && isShort c a b d) = _
  exact if_pos rfl
theorem brk_short (c : Cp) (a b d : Dt) : isBrk c (.tup [.str "short", a, b, d]) = (decide (("short" : Str) = "short") && isShort c a b d) := by
  show (if ("short" : Str) = "pin" then isPin c.gs a b d else decide (("short" : Str) = "short") && isShort c a b d) = _
  exact if_neg ne_pin2
theorem fit_ver {p : CV} (W : Wf p) {v : Ver} (hv : v.fit p) : verOk p.1 v.d := by
  cases v with
  | ok => exact .inl rfl
  | stem l b =>
    refine .inr ?_
    show (decide (("stem" : Str) = "stem") && (isLine (linesOf p.1.is p.1.rs p.1.gs) (.str l) && isInt (.int b) 0 1)) = true
    rw [isLine_lin W hv.1, isInt_bit hv.2, decide_eq_true rfl]
    rfl
  | pin l j b =>
    refine .inr ?_
    obtain ⟨⟨g, hg, rfl, hj⟩, hb⟩ := hv
    refine (show isBrk p.1 (Ver.pin g.l j b).d = isPin p.1.gs (.str g.l) (.int (j : Int)) (.int b) from brk_pin _ _ _ _).trans ?_
    have hf : (p.1.gs.find? fun g' => decide (g'.l = g.l)) = some g := by
      cases e : p.1.gs.find? fun g' => decide (g'.l = g.l) with
      | none =>
        have := List.find?_eq_none.mp e g hg
        simp at this
      | some g' =>
        have h1 : g'.l = g.l := by simpa using List.find?_some e
        rw [W.gl_inj (List.mem_of_find?_eq_some e) hg h1]
    rw [isPin_of hf]
    rw [(W.nm g.l (lin_gs hg)).1, isInt_bit hb]
    have : isInt (.int (j : Int)) 0 ((g.ps.length : Int) - 1) = true := by
      show (decide ((0 : Int) ≤ (j : Int)) && decide ((j : Int) ≤ (g.ps.length : Int) - 1)) = true
      rw [decide_eq_true (by omega), decide_eq_true (by omega)]
      rfl
    rw [this]
    rfl
  | short a b k =>
    refine .inr ?_
    obtain ⟨ha, hb, hk, h1, h2, h3⟩ := hv
    refine (show isBrk p.1 (Ver.short a b k).d = (decide (("short" : Str) = "short") && isShort p.1 (.str a) (.str b) (.str k)) from brk_short _ _ _ _).trans ?_
    rw [decide_eq_true rfl]
    unfold isShort
    rw [isLine_lin W ha, isLine_lin W hb]
    have hAO : isAO (.str k) = true := by rcases hk with rfl | rfl <;> decide +kernel
    rw [hAO]
    show (ltS a b && (!decide (a ∈ aboveL p.1.gs b) && !decide (b ∈ aboveL p.1.gs a))) = true
    rw [h1, decide_eq_false h2, decide_eq_false h3]
    rfl
theorem check_version_ok {p : CV} (W : Wf p) {v : Ver} (hv : v.fit p) : m_check_version p v.d = .ok () := by
  unfold m_check_version
  rw [R.need_pos ⟨W.ok, fit_okV W hv⟩, if_pos (fit_ver W hv)]
theorem are_bits_tup {xs : List Dt} {n : Nat} (hl : xs.length ≤ 40000) (ht : ∀ x ∈ xs, (Pw.tyD x).isSome = true) : m_are_bits (.tup xs) (n : Int) = .ok (decide (xs.length = n) && xs.all fun x => isInt x 0 1) := by
  unfold m_are_bits b_are_bits
  rw [R.need_pos (show (Pw.tyD (.tup xs)).isSome = true from rfl), show Pw.isTp (.tup xs) = true from rfl]
  simp only [R.bind_ok, Bool.not_true, Bool.false_eq_true, if_false, asT_any, ofO_some]
  rw [show lenDR (.tup xs) = .ok (xs.length : Int) from rfl]
  simp only [R.bind_ok]
  by_cases h : xs.length = n
  · rw [decide_eq_true h, show decide ((xs.length : Int) = (n : Int)) = true from decide_eq_true (by omega)]
    simp only [Bool.not_true, Bool.false_eq_true, if_false]
    rw [R.lcR_mapOn (v := fun x => isInt x 0 1) hl fun x hx => by
      unfold m_is_bit
      rw [R.need_pos (ht x hx)]
      rfl]
    simp only [R.nox_ok, R.bind_ok, R.fin_rt, Bool.true_and]
    rw [List.all_map]
    rfl
  · rw [decide_eq_false h, show decide ((xs.length : Int) = (n : Int)) = false from decide_eq_false (by omega)]
    rfl
def badPt : Exn := ⟨"BadPattern", [], []⟩
theorem check_pattern_of {p : CV} (W : Wf p) {d : Dt} {b : Bool} (h : m_are_bits d ((src p).length : Int) = .ok b) : m_check_pattern p d = if b = true then .ok () else .ex badPt := by
  unfold m_check_pattern b_check_pattern m_Circuit_sources
  simp only [R.bind_ok]
  rw [R.need_pos W.ok]
  simp only [R.bind_ok, R.nox_ok]
  rw [show (srcOf p.1.is p.1.rs).length = (src p).length from rfl, h]
  cases b <;> rfl
theorem ints_bits {bs : List Int} (h : ∀ b ∈ bs, bit b) : (bs.map Dt.int).all (fun x => isInt x 0 1) = true := by
  rw [List.all_eq_true]
  intro x hx
  obtain ⟨b, hb, rfl⟩ := List.mem_map.mp hx
  exact isInt_bit (h b hb)
theorem check_pattern_ok {p : CV} (W : Wf p) {pat : List Int} (hl : pat.length = (src p).length) (hb : ∀ b ∈ pat, bit b) : m_check_pattern p ((eT eI) pat) = .ok () := by
  have h3 := src_le W
  have := check_pattern_of W (d := (eT eI) pat) (are_bits_tup (xs := pat.map Dt.int) (by rw [List.length_map]; omega) fun x hx => by
    obtain ⟨b, hb, rfl⟩ := List.mem_map.mp hx
    rfl)
  rw [this, List.length_map, decide_eq_true hl, ints_bits hb]
  rfl
theorem values_ok {p : CV} (W : Wf p) {v : Ver} (hv : v.fit p) {pat : List Int} (hl : pat.length = (src p).length) (hb : ∀ b ∈ pat, bit b) : ∃ m, m_values p v.d ((eT eI) pat) = .ok m ∧ Part p v (fz v (cst p v pat)) pat p.2 m := by
  obtain ⟨m, e1, h⟩ := (u2_ok W hv hl hb).ex
  refine ⟨m, ?_, h⟩
  unfold m_values b_values
  simp only [R.bind_ok]
  rw [check_version_ok W hv]
  simp only [R.bind_ok]
  rw [check_pattern_ok W hl hb]
  simp only [R.bind_ok]
  rw [(as_tup as_int).mk pat]
  simp only [R.bind_ok, ofO_some]
  rw [e1]
  rfl
theorem response_ok {p : CV} (W : Wf p) {v : Ver} (hv : v.fit p) {pat : List Int} (hl : pat.length = (src p).length) (hb : ∀ b ∈ pat, bit b) : m_response p v.d ((eT eI) pat) = .ok (outs p (vm 2 p v pat)) := by
  obtain ⟨m, e, H⟩ := values_ok W hv hl hb
  have hv2 := (v2_ok W hv hl hb).2.1
  have h := H.good W
  unfold m_response b_response m_Circuit_sinks
  simp only [R.bind_ok]
  rw [e]
  simp only [R.bind_ok]
  rw [R.need_pos W.ok]
  simp only [R.bind_ok, R.nox_ok]
  rw [R.lcR_mapOn (v := fun x => (getV m x).getD 0) (sk_len W) (sk_get W h)]
  have same := Part.uniq W hl H hv2 (H.all W) (hv2.all W)
  simp only [R.nox_ok, R.bind_ok, R.fin_rt]
  congr 1
  unfold outs
  exact List.map_congr_left fun x hx => by rw [same x (W.sk x hx)]
end
end CC
set_option maxHeartbeats 1000000
namespace CC
open PySem PySem.Spec PyProof.Rows L2 Qw Mw RZ
open Evl hiding ea_cons
open Pw (Dt Rp RpL Wk R2d R1d RLd RLn Kq KqL spX2 Xm Xm0 cr_int cr_min2 cr_max2 cr_list cr_tuple rTupS cr_len pe_globI pe_globS pe_globR pe_tyname)
section
theorem isint_int (v l g : Int) : m_is_integer (eI v) l g = .ok (decide (l ≤ v) && decide (v ≤ g)) := by
  unfold m_is_integer
  rw [R.need_pos (show (Pw.tyD (eI v)).isSome = true from rfl)]
  rfl
def st (n c i : Nat) : Nat := i * (n / c) + min i (n % c)
def blk (n c i : Nat) : List Int := rangeI (st n c i : Int) (st n c (i + 1) - st n c i)
def chL (n c : Nat) : List (List Int) := (List.range c).map (blk n c)
theorem st_succ (n c i : Nat) : st n c (i + 1) = st n c i + n / c + (if i < n % c then 1 else 0) := by
  unfold st
  rw [Nat.succ_mul]
  split <;> omega
theorem st_end {n c : Nat} (hc : 0 < c) : st n c c = n := by
  unfold st
  have h1 := Nat.div_add_mod n c
  have h2 := Nat.mod_lt n hc
  rw [Nat.min_eq_right (by omega)]
  exact h1
theorem st_mono {n c i j : Nat} (h : i ≤ j) : st n c i ≤ st n c j := by
  unfold st
  have := Nat.mul_le_mul_right (n / c) h
  omega
theorem max_eq (n : Nat) : (if (n : Int) > 1 then (n : Int) else 1) = ((max 1 n : Nat) : Int) := by split <;> omega
theorem chains_ok (p : CV) {n c : Nat} (hp : p.1.rs.length = n) (hn : n < 31) (c0 : 1 ≤ c) (c1 : c ≤ max 1 n) : m_chains p (c : Int) = .ok (chL n c) := by
  rw [← holds_eq]
  unfold m_chains b_chains
  simp only [holds_fin, holds_bind, holds_ok, holds_nox, holds_bindC, hp, max_eq]
  rw [isint_int, decide_eq_true (by omega), decide_eq_true (by omega)]
  simp only [holds_ok, Bool.and_self, Bool.not_true, Bool.false_eq_true, if_false, holds_bind, holds_nox, holds_bindC, holds_need]
  refine ⟨by omega, ?_⟩
  rw [Int.toNat_natCast]
  refine holds_rng (fun v i => v = ((List.range i).map (blk n c), (st n c i : Int))) 0 c _ (by simp [st]) (fun v i hi h => ?_) (fun v h => ?_)
  · subst h
    have he : st n c (i + 1) ≤ n := by
      have := st_mono (n := n) (c := c) (show i + 1 ≤ c by omega)
      rwa [st_end (by omega)] at this
    have hs := st_succ n c i
    have hd : divR (n : Int) (c : Int) = .ok ((n / c : Nat) : Int) := R.need_pos ⟨by omega, by omega⟩
    have hm : modR (n : Int) (c : Int) = .ok ((n % c : Nat) : Int) := R.need_pos (by omega)
    simp only [holds_bind, holds_ok, holds_nox, holds_need, hd, hm, R.bind_ok]
    have hx : ((st n c i : Int) + ((n / c : Nat) : Int)) + (if decide ((0 : Int) + (i : Int) < ((n % c : Nat) : Int)) = true then (1 : Int) else 0) = ((st n c (i + 1) : Nat) : Int) := by
      rw [hs]
      by_cases h : i < n % c
      · rw [if_pos h, if_pos (by simp; omega)]
        omega
      · rw [if_neg h, if_neg (by simp; omega)]
        omega
    have hif : (if decide ((0 : Int) + (i : Int) < ((n % c : Nat) : Int)) = true then R.ok (1 : Int) else R.ok 0) = .ok (if decide ((0 : Int) + (i : Int) < ((n % c : Nat) : Int)) = true then 1 else 0) := by split <;> rfl
    rw [hif, holds_ok, hx]
    have hm2 := st_mono (n := n) (c := c) (show i ≤ i + 1 by omega)
    have ht : tupRg ((st n c i : Nat) : Int) ((st n c (i + 1) : Nat) : Int) = .ok (blk n c i) := by
      unfold tupRg
      rw [R.need_pos (by omega)]
      unfold blk
      rw [show (((st n c (i + 1) : Nat) : Int) - ((st n c i : Nat) : Int)).toNat = st n c (i + 1) - st n c i by omega]
    rw [ht, holds_ok]
    refine ⟨by simp; omega, ?_⟩
    rw [onF_nx, List.range_succ, List.map_append]
    rfl
  · subst h
    rw [onC_nx, onR_rt]
    rfl
theorem rg_take {a : Int} {m k : Nat} (h : k ≤ m) : (rangeI a m).take k = rangeI a k := by
  apply List.ext_getElem?
  intro j
  rw [List.getElem?_take]
  by_cases hj : j < k
  · rw [if_pos hj, rangeI_get (by omega), rangeI_get hj]
  · rw [if_neg hj, List.getElem?_eq_none (by rw [rangeI_len]; omega)]
theorem rg_drop {a : Int} {m k : Nat} (h : k ≤ m) : (rangeI a m).drop k = rangeI (a + k) (m - k) := by
  apply List.ext_getElem?
  intro j
  rw [List.getElem?_drop]
  by_cases hj : j < m - k
  · rw [rangeI_get (by omega), rangeI_get hj]
    congr 1
    omega
  · rw [List.getElem?_eq_none (by rw [rangeI_len]; omega), List.getElem?_eq_none (by rw [rangeI_len]; omega)]
theorem len_eq {n c i : Nat} (hi : i < c) : (((((n - st n c i : Nat) : Int) + (c : Int)) - ((0 : Int) + (i : Int))) - 1) / ((c : Int) - ((0 : Int) + (i : Int))) = ((st n c (i + 1) - st n c i : Nat) : Int) := by
  have h1 := Nat.div_add_mod n c
  have h2 := Nat.mod_lt n (show 0 < c by omega)
  rw [st_succ]
  unfold st
  generalize n / c = q at *
  generalize n % c = r at *
  obtain ⟨d, rfl⟩ : ∃ d, c = i + d := ⟨c - i, by omega⟩
  rw [Nat.add_mul] at h1
  have e1 : ((n - (i * q + min i r) : Nat) : Int) = ((r - min i r : Nat) : Int) + (d : Int) * (q : Int) := by
    have : n - (i * q + min i r) = (r - min i r) + d * q := by omega
    rw [this]
    simp
  have hd : ((i + d : Nat) : Int) - ((0 : Int) + (i : Int)) = (d : Int) := by omega
  have e2 : ((r - min i r : Nat) : Int) + (d : Int) * (q : Int) + ((i + d : Nat) : Int) - ((0 : Int) + (i : Int)) - 1 = (((r - min i r : Nat) : Int) + (d : Int) - 1) + (d : Int) * (q : Int) := by
    generalize (d : Int) * (q : Int) = z
    omega
  rw [e1, hd, e2, Int.add_mul_ediv_left _ _ (by omega)]
  by_cases h : i < r
  · rw [if_pos h, show ((r - min i r : Nat) : Int) + (d : Int) - 1 = (((r - min i r : Nat) : Int) - 1) + (d : Int) * 1 by omega, Int.add_mul_ediv_left _ _ (by omega), Int.ediv_eq_zero_of_lt (by omega) (by omega)]
    omega
  · rw [if_neg h, show ((r - min i r : Nat) : Int) + (d : Int) - 1 = (d : Int) - 1 by omega, Int.ediv_eq_zero_of_lt (by omega) (by omega)]
    omega
theorem law_chains_ok {n c : Nat} (hn : n < 31) (c0 : 1 ≤ c) (c1 : c ≤ max 1 n) : m_law_chains (n : Int) (c : Int) = .ok (chL n c) := by
  rw [← holds_eq]
  unfold m_law_chains b_law_chains
  simp only [holds_fin, holds_bind, holds_ok, holds_nox, holds_bindC, holds_need]
  refine ⟨by omega, ?_⟩
  rw [Int.toNat_natCast]
  refine Holds.imp (Q := fun z => z = .nx (rangeI 0 n)) ?_ (fun z hz => ?_)
  · refine holds_rng (fun v i => v = rangeI 0 i) 0 n _ rfl (fun v i hi h => ?_) (fun v h => by rw [h])
    subst h
    simp only [holds_bind, holds_ok, holds_nox, holds_need, onF_nx, List.length_map, rangeI_len]
    refine ⟨by omega, ?_⟩
    unfold rangeI
    rw [List.range_succ, List.map_append]
    rfl
  subst hz
  rw [onC_nx]
  refine ⟨by omega, ?_⟩
  rw [Int.toNat_natCast]
  refine holds_rng (fun v i => v = (rangeI (st n c i : Int) (n - st n c i), (List.range i).map (blk n c))) 0 c _ (by simp [st]) (fun v i hi h => ?_) (fun v h => ?_)
  · subst h
    have he : st n c (i + 1) ≤ n := by
      have := st_mono (n := n) (c := c) (show i + 1 ≤ c by omega)
      rwa [st_end (by omega)] at this
    have hm2 := st_mono (n := n) (c := c) (show i ≤ i + 1 by omega)
    have hd : divR (((((rangeI (st n c i : Int) (n - st n c i)).length : Int) + (c : Int)) - ((0 : Int) + (i : Int))) - 1) ((c : Int) - ((0 : Int) + (i : Int))) = .ok ((st n c (i + 1) - st n c i : Nat) : Int) := by
      unfold divR
      rw [R.need_pos ⟨by omega, by omega⟩, rangeI_len, len_eq hi]
    simp only [holds_bind, holds_ok, holds_nox, holds_need, hd]
    rw [cutR_to, cutR_from, rg_take (by omega), rg_drop (by omega)]
    refine ⟨by simp; omega, ?_⟩
    rw [onF_nx, List.range_succ, List.map_append]
    show (rangeI _ _, _) = (rangeI _ _, _)
    rw [show (st n c i : Int) + ((st n c (i + 1) - st n c i : Nat) : Int) = (st n c (i + 1) : Int) by omega, show n - st n c i - (st n c (i + 1) - st n c i) = n - st n c (i + 1) by omega]
    rfl
  · subst h
    rw [onC_nx, onR_rt]
    rfl
def lj (n c j : Nat) : Nat := st n c (j + 1) - st n c j
theorem lj_val (n c j : Nat) : lj n c j = n / c + (if j < n % c then 1 else 0) := by
  unfold lj
  rw [st_succ]
  generalize n / c = q
  split <;> omega
theorem lj_le (n c j : Nat) : lj n c j ≤ lj n c 0 := by
  rw [lj_val, lj_val]
  generalize n / c = q
  split <;> split <;> omega
theorem st_next (n c j : Nat) : st n c (j + 1) = st n c j + lj n c j := by
  have := st_mono (n := n) (c := c) (show j ≤ j + 1 by omega)
  unfold lj
  omega
theorem ch0 {n c : Nat} (h : 0 < c) : ixR (chL n c) 0 = .ok (blk n c 0) := ixR_ok (j := 0) rfl (by unfold chL; rw [List.getElem?_map, List.getElem?_range h]; rfl)
theorem ch_at {n c j : Nat} (h : j < c) : (chL n c)[j]? = some (blk n c j) := by
  unfold chL
  rw [List.getElem?_map, List.getElem?_range h]
  rfl
theorem blk_len (n c j : Nat) : (blk n c j).length = lj n c j := rangeI_len
/-- what the registers hold, chain by chain -/
def bk (f : Nat → List Int) (J : Nat) : List Int := ((List.range J).map f).flatten
def BOk (n c : Nat) (f : Nat → List Int) : Prop := ∀ j, j < c → (f j).length = lj n c j
theorem bk_succ (f : Nat → List Int) (J : Nat) : bk f (J + 1) = bk f J ++ f J := by
  unfold bk
  rw [List.range_succ, List.map_append, List.flatten_append]
  simp
theorem bk_len {n c : Nat} {f : Nat → List Int} (h : BOk n c f) : ∀ J, J ≤ c → (bk f J).length = st n c J
  | 0, _ => by simp [bk, st]
  | J + 1, hJ => by rw [bk_succ, List.length_append, bk_len h J (by omega), h J (by omega), st_next]
theorem bk_get {n c : Nat} {f : Nat → List Int} (h : BOk n c f) : ∀ J, J ≤ c → ∀ j i, j < J → i < lj n c j → (bk f J)[st n c j + i]? = (f j)[i]?
  | 0, _, j, i, hj, _ => absurd hj (by omega)
  | J + 1, hJ, j, i, hj, hi => by
    rw [bk_succ]
    have hl := bk_len h J (by omega)
    by_cases hjJ : j = J
    · subst hjJ
      rw [List.getElem?_append_right (by omega), hl]
      congr 1
      omega
    · have hlt : st n c j + i < st n c J := by
        have h1 := st_next n c j
        have h2 := st_mono (n := n) (c := c) (show j + 1 ≤ J by omega)
        omega
      rw [List.getElem?_append_left (by omega)]
      exact bk_get h J (by omega) j i (by omega) hi
theorem bk_congr {f g : Nat → List Int} {J : Nat} (h : ∀ j, j < J → f j = g j) : bk f J = bk g J := by
  unfold bk
  rw [List.map_congr_left fun j hj => h j (List.mem_range.mp hj)]
/-- any tuple of so many bits, chain by chain -/
def sg (n c : Nat) (h : List Int) (j : Nat) : List Int := (h.drop (st n c j)).take (lj n c j)
theorem sg_len {n c : Nat} (c0 : 0 < c) {h : List Int} (hl : h.length = n) : BOk n c (sg n c h) := fun j hj => by
  unfold sg
  rw [List.length_take, List.length_drop, hl]
  have h1 := st_next n c j
  have h2 := st_mono (n := n) (c := c) (show j + 1 ≤ c by omega)
  rw [st_end c0] at h2
  omega
theorem sg_bk {n c : Nat} (c0 : 0 < c) {h : List Int} (hl : h.length = n) : bk (sg n c h) c = h := by
  have key : ∀ J, J ≤ c → bk (sg n c h) J = h.take (st n c J) := by
    intro J
    induction J with
    | zero => intro _; simp [bk, st]
    | succ J ih =>
      intro hJ
      rw [bk_succ, ih (by omega), st_next, List.take_add]
      rfl
  rw [key c (Nat.le_refl _), st_end c0, ← hl, List.take_length]
theorem blk_get {n c : Nat} {f : Nat → List Int} (h : BOk n c f) {j : Nat} (hj : j < c) (hl : lj n c j ≤ 40000) : R.lcR (blk n c j) (fun _ => R.ok true) (fun k => ixR (bk f c) k) = .ok (f j) := by
  rw [R.lcR_mapOn (v := fun k : Int => (bk f c).getD k.toNat 0) (by rw [blk_len]; exact hl) fun k hk => ?_]
  · congr 1
    apply List.ext_getElem?
    intro i
    rw [List.getElem?_map]
    by_cases hi : i < lj n c j
    · have e : (blk n c j)[i]? = some ((st n c j : Int) + (i : Int)) := by
        unfold blk rangeI
        rw [List.getElem?_map, List.getElem?_range (by unfold lj at hi; exact hi)]
        rfl
      rw [e, Option.map_some, show ((st n c j : Int) + (i : Int)).toNat = st n c j + i by omega, List.getD_eq_getElem?_getD, bk_get h c (Nat.le_refl _) j i hj hi, List.getElem?_eq_getElem (by rw [h j hj]; exact hi)]
      rfl
    · rw [List.getElem?_eq_none (by rw [blk_len]; omega), List.getElem?_eq_none (by rw [h j hj]; omega)]
      rfl
  · obtain ⟨i, hi⟩ := List.getElem?_of_mem hk
    have hil := get_lt hi
    rw [blk_len] at hil
    have e : (blk n c j)[i]? = some ((st n c j : Int) + (i : Int)) := by
      unfold blk rangeI
      rw [List.getElem?_map, List.getElem?_range (by unfold lj at hil; exact hil)]
      rfl
    rw [e] at hi
    cases hi
    refine ixR_ok (j := st n c j + i) (by omega) ?_
    rw [show ((st n c j : Int) + (i : Int)).toNat = st n c j + i by omega, List.getD_eq_getElem?_getD, bk_get h c (Nat.le_refl _) j i hj hil, List.getElem?_eq_getElem (by rw [h j hj]; exact hil)]
    rfl
theorem cut_last {s : List Int} (h : 0 < s.length) : cutR s none (some (-1)) = s.dropLast := by
  unfold cutR
  rw [HT.sIx_none, List.drop_zero, List.dropLast_eq_take, Nat.sub_zero]
  congr 1
  show (if (-1 : Int) < 0 then ((-1 : Int) + (s.length : Int)).toNat else min (-1 : Int).toNat s.length) = s.length - 1
  rw [if_pos (by omega)]
  omega
theorem ix_last {s : List Int} (h : 0 < s.length) : ixR s (-1) = .ok (s.getD (s.length - 1) 0) := by
  unfold ixR ixN
  rw [if_neg (by omega), if_pos (by omega), Option.bind_some, show ((-1 : Int) + (s.length : Int)).toNat = s.length - 1 by omega, List.getD_eq_getElem?_getD, List.getElem?_eq_getElem (by omega)]
  rfl
/-- a chain behind a shift, what falls out of it -/
def shB (n c : Nat) (f : Nat → List Int) (bs : List Int) (j : Nat) : List Int := (bs.getD j 0 :: f j).take (lj n c j)
def shO (n c : Nat) (f : Nat → List Int) (bs : List Int) (j : Nat) : Int := (bs.getD j 0 :: f j).getD (lj n c j) 0
theorem shB_ok {n c : Nat} {f : Nat → List Int} (h : BOk n c f) (bs : List Int) : BOk n c (shB n c f bs) := fun j hj => by
  unfold shB
  rw [List.length_take, List.length_cons, h j hj]
  omega
abbrev TsV := CV × Dt × List (List Int) × List Int
theorem check_bits_ok {bs : List Int} {n : Nat} (hl : bs.length = n) (h4 : n ≤ 40000) (hb : ∀ b ∈ bs, bit b) : m_check_bits bs (n : Int) = .ok () := by
  unfold m_check_bits b_check_bits
  simp only [R.bind_ok]
  have := are_bits_tup (xs := bs.map Dt.int) (n := n) (by rw [List.length_map]; omega) fun x hx => by
    obtain ⟨b, _, rfl⟩ := List.mem_map.mp hx
    rfl
  rw [show (eT eI) bs = Dt.tup (bs.map Dt.int) from rfl, this, List.length_map, decide_eq_true hl, ints_bits hb]
  rfl
theorem shift_ok {p : CV} {vd : Dt} {n c : Nat} (hn : n < 31) (hc : c ≤ 31) {f : Nat → List Int} (h : BOk n c f) {bs : List Int} (hl : bs.length = c) (hb : ∀ b ∈ bs, bit b) :
    m_Tester_shift ((p, vd, chL n c, bk f c) : TsV) bs = .ok ((List.range c).map (shO n c f bs), ((p, vd, chL n c, bk (shB n c f bs) c) : TsV)) := by
  have hcl : (chL n c).length = c := by simp [chL]
  rw [← holds_eq]
  unfold m_Tester_shift b_Tester_shift
  simp only [R.bind_ok]
  rw [hcl, check_bits_ok hl (by omega) hb]
  simp only [R.bind_ok]
  rw [holds_fin, holds_bindC]
  refine holds_ix (fun (v : List Int × List Int) i => v = (bk (shB n c f bs) i, (List.range i).map (shO n c f bs))) _ _ rfl (fun v i q hq H => ?_) (fun v H => ?_)
  · have hi := get_lt hq
    rw [List.length_zip, hl, hcl] at hi
    have hic : i < c := by omega
    rw [List.getElem?_zip_eq_some] at hq
    obtain ⟨h1, h2⟩ := hq
    rw [ch_at hic] at h2
    have h2 : blk n c i = q.2 := Option.some.inj h2
    have h1' : q.1 = bs.getD i 0 := by
      rw [List.getD_eq_getElem?_getD, h1]
      rfl
    subst H
    simp only
    have hlj : lj n c i ≤ 31 := by
      have h1 := st_next n c i
      have h2 := st_mono (n := n) (c := c) (show i + 1 ≤ c by omega)
      rw [st_end (by omega)] at h2
      omega
    rw [← h2, h1', blk_get h hic (by omega)]
    simp only [R.nox_ok, R.bind_ok]
    have hfl := h i hic
    rw [R.need_pos (by rw [List.length_cons, hfl]; omega)]
    simp only [R.bind_ok]
    rw [cut_last (by simp), ix_last (by simp)]
    simp only [R.bind_ok]
    have hbk := bk_len (shB_ok h bs) i (by omega)
    have hst : st n c i ≤ 31 := by
      have h2 := st_mono (n := n) (c := c) (show i ≤ c by omega)
      rw [st_end (by omega)] at h2
      omega
    rw [R.need_pos (by rw [List.length_dropLast, List.length_cons, hbk, hfl]; omega), R.need_pos (by simp; omega), holds_ok, onF_nx, bk_succ, List.range_succ, List.map_append]
    refine Prod.ext ?_ ?_
    · show _ ++ List.dropLast _ = _ ++ shB n c f bs i
      unfold shB
      rw [List.dropLast_eq_take, List.length_cons, hfl]
      rfl
    · show _ ++ [_] = _ ++ [shO n c f bs i]
      unfold shO
      rw [List.length_cons, hfl]
      rfl
  · rw [List.length_zip, hl, hcl, Nat.min_self] at H
    subst H
    rw [onC_nx]
    simp only [R.bind_ok, R.bind2_ok]
    rw [holds_ok, onR_rt]
theorem made_ok {p : CV} (W : Wf p) {v : Ver} (hv : v.fit p) {n c : Nat} (hp : p.1.rs.length = n) (hn : n < 31) (c0 : 1 ≤ c) (c1 : c ≤ max 1 n) {h : List Int} (hl : h.length = n) (hb : ∀ b ∈ h, bit b) : m_Tester_init p v.d (c : Int) h = .ok ((p, v.d, chL n c, h) : TsV) := by
  unfold m_Tester_init b_Tester_init
  simp only [R.bind_ok]
  rw [check_version_ok W hv]
  simp only [R.bind_ok]
  rw [hp, check_bits_ok hl (by omega) hb]
  simp only [R.bind_ok]
  rw [chains_ok p hp hn c0 c1]
  rfl
theorem stored_ok (t : TsV) : m_Tester_stored t = .ok t.2.2.2 := rfl
theorem src_len {p : CV} : (src p).length = p.1.is.length + p.1.rs.length := by
  show (srcOf p.1.is p.1.rs).length = _
  unfold srcOf
  rw [List.length_append, List.length_map]
theorem tresponse_ok {p : CV} (W : Wf p) {v : Ver} (hv : v.fit p) {ch : List (List Int)} {x h : List Int} (hx : x.length = p.1.is.length) (hl : h.length = p.1.rs.length) (bx : ∀ b ∈ x, bit b) (bh : ∀ b ∈ h, bit b) : m_Testerresponse ((p, v.d, ch, h) : TsV) x = .ok (outs p (vm 2 p v (x ++ h))) := by
  have hs := src_le W
  have hsl := src_len (p := p)
  unfold m_Testerresponse b_Testerresponse
  simp only [R.bind_ok]
  rw [check_bits_ok hx (by omega) bx]
  simp only [R.bind_ok]
  rw [catR_ok (by omega)]
  simp only [R.bind_ok]
  rw [response_ok W hv (by rw [List.length_append]; omega) fun b hb => (List.mem_append.mp hb).elim (bx b) (bh b)]
  rfl
/-- the outputs, what the registers take -/
def oo (p : CV) (v : Ver) (x h : List Int) : List Int := (outs p (vm 2 p v (x ++ h))).take p.1.os.length
def hh (p : CV) (v : Ver) (x h : List Int) : List Int := (outs p (vm 2 p v (x ++ h))).drop p.1.os.length
theorem clock_ok {p : CV} (W : Wf p) {v : Ver} (hv : v.fit p) {ch : List (List Int)} {x h : List Int} (hx : x.length = p.1.is.length) (hl : h.length = p.1.rs.length) (bx : ∀ b ∈ x, bit b) (bh : ∀ b ∈ h, bit b) : m_Tester_clock ((p, v.d, ch, h) : TsV) x = .ok (oo p v x h, ((p, v.d, ch, hh p v x h) : TsV)) := by
  unfold m_Tester_clock b_Tester_clock
  simp only [R.bind_ok]
  rw [tresponse_ok W hv hx hl bx bh]
  simp only [R.nox_ok, R.bind_ok, R.bind2_ok]
  rw [cutR_from, cutR_to]
  rfl
end
end CC
set_option maxHeartbeats 1000000
namespace CC
open PySem PySem.Spec PyProof.Rows L2 Qw Mw RZ
open Evl hiding ea_cons
open Pw (Dt Rp RpL Wk R2d R1d RLd RLn Kq KqL spX2 Xm Xm0 cr_int cr_min2 cr_max2 cr_list cr_tuple rTupS cr_len pe_globI pe_globS pe_globR pe_tyname)
section
structure Pre (c : Cp) : Prop where
  ok : c.ok
  nd : (linesOf c.is c.rs c.gs).Nodup
  len : (linesOf c.is c.rs c.gs).length ≤ 60
  sl : (srcOf c.is c.rs).length ≤ 40
  nm : ∀ x ∈ linesOf c.is c.rs c.gs, nameB x = true ∧ okStr x = true ∧ x.length ≤ 12
  kd : ∀ g ∈ c.gs, g.k ∈ KIN ∧ mayHave g.k g.ps.length = true
  us : ∀ y ∈ usesOf c, y ∈ linesOf c.is c.rs c.gs
  rk : ∃ rk : Gt → Nat, ∀ g ∈ c.gs, ∀ x ∈ g.ps, x ∈ srcOf c.is c.rs ∨ ∃ h ∈ c.gs, h.l = x ∧ rk h < rk g
theorem Pre.str {c : Cp} (H : Pre c) {x : Str} (h : x ∈ linesOf c.is c.rs c.gs) : isName (.str x) = true ∧ okS (.str x) = true :=
  ⟨(H.nm x h).1, decide_eq_true (by have := (H.nm x h).2.2; omega)⟩
theorem Pre.strs {c : Cp} (H : Pre c) {l : List Str} (h : ∀ x ∈ l, x ∈ linesOf c.is c.rs c.gs) : (l.map Dt.str).all isName = true ∧ (l.map Dt.str).all okS = true := by
  refine ⟨List.all_eq_true.mpr fun d hd => ?_, List.all_eq_true.mpr fun d hd => ?_⟩
  · obtain ⟨x, hx, rfl⟩ := List.mem_map.mp hd
    exact (H.str (h x hx)).1
  · obtain ⟨x, hx, rfl⟩ := List.mem_map.mp hd
    exact (H.str (h x hx)).2
theorem dup_none : ∀ (l seen : List Str), l.Nodup → (∀ x ∈ l, ¬ x ∈ seen) → dupOf seen l = none
  | [], seen, _, _ => rfl
  | x :: l, seen, hn, hs => by
    rw [List.nodup_cons] at hn
    unfold dupOf
    rw [if_neg (hs x List.mem_cons_self)]
    exact dup_none l _ hn.2 fun y hy z => (List.mem_append.mp z).elim (hs y (List.mem_cons_of_mem _ hy)) fun z => hn.1 (List.mem_singleton.mp z ▸ hy)
theorem Pre.made {c : Cp} (H : Pre c) : ∃ p : CV, p.1 = c ∧ Wf p ∧ m_Circuit_init c.is c.rs c.gs c.os = .ok p := by
  obtain ⟨rk, hrk⟩ := H.rk
  obtain ⟨k, ord, e, hp, ho⟩ := order_ok rk hrk
  have ok := H.ok
  have hl : ∀ x ∈ srcOf c.is c.rs, x ∈ linesOf c.is c.rs c.gs := fun x hx => List.mem_append_left _ hx
  have hi := H.strs (l := c.is) fun x hx => hl x (List.mem_append_left _ hx)
  have hos := H.strs (l := c.os) fun x hx => H.us x (List.mem_append_right _ hx)
  have hr2 : ∀ r ∈ c.rs, r.1 ∈ linesOf c.is c.rs c.gs ∧ r.2 ∈ linesOf c.is c.rs c.gs := fun r hr => ⟨hl _ (List.mem_append_right _ (List.mem_map_of_mem hr)), H.us _ (List.mem_append_left _ (List.mem_append_right _ (List.mem_map_of_mem hr)))⟩
  have hg2 : ∀ g ∈ c.gs, g.l ∈ linesOf c.is c.rs c.gs ∧ ∀ x ∈ g.ps, x ∈ linesOf c.is c.rs c.gs := fun g hg => ⟨List.mem_append_right _ (List.mem_map_of_mem hg), fun x hx => H.us _ (List.mem_append_left _ (List.mem_append_left _ (List.mem_flatMap.mpr ⟨g, hg, hx⟩)))⟩
  have hrs : (c.rs.map regD).all isReg = true ∧ (c.rs.map regD).all okR = true := by
    refine ⟨List.all_eq_true.mpr fun d hd => ?_, List.all_eq_true.mpr fun d hd => ?_⟩
    all_goals
      obtain ⟨r, hr, rfl⟩ := List.mem_map.mp hd
      obtain ⟨g1, g2⟩ := hr2 r hr
      obtain ⟨a1, b1⟩ := H.str g1
      obtain ⟨a2, b2⟩ := H.str g2
    · show (decide (([Dt.str r.1, Dt.str r.2] : List Dt).length = 2) && (isName (.str r.1) && (isName (.str r.2) && true))) = true
      rw [a1, a2]
      rfl
    · show (decide (([Dt.str r.1, Dt.str r.2] : List Dt).length ≤ 40000) && (okS (.str r.1) && (okS (.str r.2) && true))) = true
      rw [b1, b2]
      rfl
  have hgs : (c.gs.map Gt.d).all isGate = true ∧ (c.gs.map Gt.d).all okG = true := by
    refine ⟨List.all_eq_true.mpr fun d hd => ?_, List.all_eq_true.mpr fun d hd => ?_⟩
    all_goals
      obtain ⟨g, hg, rfl⟩ := List.mem_map.mp hd
      obtain ⟨a1, b1⟩ := H.str (hg2 g hg).1
      obtain ⟨a2, b2⟩ := H.strs (l := g.ps) (hg2 g hg).2
      obtain ⟨f1, f2⟩ := H.kd g hg
      have f3 := ok.2.2.2.2 g hg
    · show (decide (g.k ∈ KIN) && (mayHave g.k ((g.ps.map Dt.str).length : Int) && (isName (.str g.l) && (g.ps.map Dt.str).all isName))) = true
      rw [a1, a2, List.length_map, f2, decide_eq_true f1]
      rfl
    · show (okS (.str g.l) && ((Pw.tyD (.str g.k)).isSome && (decide ((g.ps.map Dt.str).length ≤ 30000) && (g.ps.map Dt.str).all okS))) = true
      rw [b1, b2, List.length_map, decide_eq_true (show g.ps.length ≤ 30000 by omega)]
      rfl
  have hform : form1 c = true := by
    unfold form1 formOk
    rw [hi.1, hos.1, hrs.1, hgs.1]
    rfl
  have hsmall : small1 c = true := by
    unfold small1
    rw [hi.2, hos.2, hrs.2, hgs.2]
    rfl
  refine ⟨(c, ord), rfl, ⟨ok, H.nd, H.len, hp, ho, H.nm, fun x hx => ?_, H.kd⟩, ?_⟩
  · rcases List.mem_append.mp hx with h | h
    · exact H.us x (List.mem_append_right _ h)
    · exact H.us x (List.mem_append_left _ (List.mem_append_right _ h))
  · unfold m_Circuit_init
    rw [R.need_pos ⟨⟨ok.1, ok.2.1, ok.2.2.1, ok.2.2.2.1⟩, hsmall⟩, if_pos hform, R.need_pos ok.2.2.2.2]
    unfold twice1
    rw [dup_none _ [] H.nd fun x _ z => nomatch z]
    show known1 c = _
    unfold known1
    rw [show (usesOf c).find? (fun y => !decide (y ∈ linesOf c.is c.rs c.gs)) = none from List.find?_eq_none.mpr fun y hy => by
      rw [decide_eq_true (H.us y hy)]
      decide]
    show size1 c = _
    unfold size1
    have h1 := H.len
    rw [if_pos ⟨by omega, H.sl⟩]
    unfold order1
    rw [e]
end
end CC
set_option maxHeartbeats 1000000
namespace CC
open PySem PySem.Spec PyProof.Rows L2 Qw Mw RZ
open Evl hiding ea_cons
open Pw (Dt Rp RpL Wk R2d R1d RLd RLn Kq KqL spX2 Xm Xm0 cr_int cr_min2 cr_max2 cr_list cr_tuple rTupS cr_len pe_globI pe_globS pe_globR pe_tyname)
section
abbrev St2 := Str × List Int
def rw_ (n c : Nat) (bits : List Int) (p : Nat) : List Int := (List.range c).map fun j => if p < lj n c j then bits.getD (st n c j + p) 0 else 0
def shp (n c : Nat) (bits : List Int) : List St2 := (List.range (lj n c 0)).map fun t => (("shift" : Str), rw_ n c bits (lj n c 0 - 1 - t))
def one_ (n c many : Nat) (pat : List Int) : List St2 := shp n c (pat.drop many) ++ [(("clock" : Str), pat.take many)]
def prg (n c many : Nat) (pats : List (List Int)) : List St2 := (pats.map (one_ n c many)).flatten ++ List.replicate (lj n c 0) (("shift" : Str), List.replicate c 0)
theorem shp_len {n c : Nat} {bits : List Int} : (shp n c bits).length = lj n c 0 := by simp [shp]
theorem one_len {n c many : Nat} {pat : List Int} : (one_ n c many pat).length = lj n c 0 + 1 := by simp [one_, shp]
theorem rw_len {n c : Nat} {bits : List Int} {p : Nat} : (rw_ n c bits p).length = c := by simp [rw_]
theorem lj_small {n c j : Nat} (hn : n < 31) (hj : j < c) : lj n c j ≤ 31 := by
  have h1 := st_next n c j
  have h2 := st_mono (n := n) (c := c) (show j + 1 ≤ c by omega)
  rw [st_end (by omega)] at h2
  omega
theorem st_in {n c j p : Nat} (hj : j < c) (hp : p < lj n c j) : st n c j + p < n := by
  have h1 := st_next n c j
  have h2 := st_mono (n := n) (c := c) (show j + 1 ≤ c by omega)
  rw [st_end (by omega)] at h2
  omega
theorem rw_bit {n c : Nat} {bits : List Int} (hl : bits.length = n) (hb : ∀ b ∈ bits, bit b) {p : Nat} : ∀ b ∈ rw_ n c bits p, bit b := fun b h => by
  obtain ⟨j, hj, rfl⟩ := List.mem_map.mp h
  have hj := List.mem_range.mp hj
  split
  · rename_i hp
    have := st_in hj hp
    rw [List.getD_eq_getElem?_getD, List.getElem?_eq_getElem (by omega)]
    exact hb _ (List.getElem_mem _)
  · exact .inl rfl
theorem blk_at {n c j p : Nat} (hp : p < lj n c j) : (blk n c j)[p]? = some ((st n c j : Int) + (p : Int)) := by
  unfold blk rangeI
  rw [List.getElem?_map, List.getElem?_range (by unfold lj at hp; exact hp)]
  rfl
/-- what goes into a chain at a place -/
theorem item_ok {n c j p : Nat} (hj : j < c) {bits : List Int} (hl : bits.length = n) : (R.bind (R.ok (decide ((p : Int) < ((blk n c j).length : Int)))) fun t_20 => if t_20 = true then (R.bind (ixR (blk n c j) (p : Int)) fun t_19 => (ixR bits t_19)) else (R.ok (0 : Int))) = .ok (if p < lj n c j then bits.getD (st n c j + p) 0 else 0) := by
  simp only [R.bind_ok]
  rw [blk_len]
  by_cases hp : p < lj n c j
  · rw [decide_eq_true (by omega), if_pos hp]
    simp only [if_true]
    rw [ixR_ok (j := p) rfl (blk_at hp)]
    simp only [R.bind_ok]
    have := st_in hj hp
    refine ixR_ok (j := st n c j + p) (by omega) ?_
    rw [List.getD_eq_getElem?_getD, List.getElem?_eq_getElem (by omega)]
    rfl
  · rw [decide_eq_false (by omega), if_neg hp]
    rfl
theorem lcR_mapE {α β γ : Type} {e : α → β} {f : β → R γ} {v : α → γ} (xs : List α) (hl : xs.length ≤ 1000) (h : ∀ a ∈ xs, f (e a) = .ok (v a)) : R.lcR (xs.map e) (fun _ => R.ok true) f = .ok (xs.map v) := by
  unfold R.lcR
  rw [R.need_pos (by rw [List.length_map]; omega)]
  clear hl
  induction xs with
  | nil => rfl
  | cons x xs ih =>
    rw [List.map_cons]
    unfold R.lcG
    rw [h x List.mem_cons_self, ih fun k hk => h k (List.mem_cons_of_mem _ hk)]
    rfl
theorem row_lc {n c p : Nat} (hc : c ≤ 31) {bits : List Int} (hl : bits.length = n) : R.lcR (chL n c) (fun _ => R.ok true) (fun chain : List Int => (R.bind (R.ok (decide ((p : Int) < (chain.length : Int)))) fun t_20 => if t_20 = true then (R.bind (ixR chain (p : Int)) fun t_19 => (ixR bits t_19)) else (R.ok (0 : Int)))) = .ok (rw_ n c bits p) :=
  lcR_mapE (e := blk n c) (List.range c) (by rw [List.length_range]; omega) fun j hj => item_ok (List.mem_range.mp hj) hl
theorem steps_dn {L i : Nat} {k : Int} (h : (stepsI ((L : Int) - 1) (-1) L)[i]? = some k) : i < L ∧ k = ((L - 1 - i : Nat) : Int) := by
  have hi := get_lt h
  rw [stepsI_len] at hi
  rw [stepsI_get hi] at h
  have := Option.some.inj h
  exact ⟨hi, by omega⟩
theorem flat_len {α β : Type} {f : α → List β} {m : Nat} (h : ∀ a, (f a).length = m) : ∀ l : List α, (l.map f).flatten.length = l.length * m
  | [] => by simp
  | a :: l => by
    rw [List.map_cons, List.flatten_cons, List.length_append, h, flat_len h l, List.length_cons, Nat.succ_mul]
    omega
theorem flat_get {α β : Type} {f : α → List β} {m : Nat} (h : ∀ a, (f a).length = m) {i : Nat} (hi : i < m) : ∀ (l : List α) (k : Nat) (a : α), l[k]? = some a → (l.map f).flatten[k * m + i]? = (f a)[i]?
  | [], k, a, e => by simp at e
  | b :: l, 0, a, e => by
    cases e
    rw [List.map_cons, List.flatten_cons, Nat.zero_mul, Nat.zero_add, List.getElem?_append_left (by rw [h]; exact hi)]
  | b :: l, k + 1, a, e => by
    rw [List.map_cons, List.flatten_cons, Nat.succ_mul, List.getElem?_append_right (by rw [h]; omega), h]
    rw [show k * m + m + i - m = k * m + i by omega]
    exact flat_get h hi l k a (by simpa using e)
theorem program_ok {p : CV} (W : Wf p) {n c : Nat} (hp : p.1.rs.length = n) (hn : n < 31) (c0 : 1 ≤ c) (c1 : c ≤ max 1 n) {pats : List (List Int)} (hl : pats.length ≤ 100) (hps : ∀ pat ∈ pats, pat.length = (src p).length ∧ ∀ b ∈ pat, bit b) : m_program_of p (c : Int) pats = .ok (prg n c p.1.is.length pats) := by
  have hsl := src_len (p := p)
  have hc : c ≤ 31 := by omega
  have hL := lj_small (c := c) (j := 0) hn (by omega)
  rw [← holds_eq]
  unfold m_program_of b_program_of
  simp only [R.bind_ok]
  rw [chains_ok p hp hn c0 c1]
  simp only [R.bind_ok]
  rw [decide_eq_false (by omega)]
  simp only [Bool.false_eq_true, if_false]
  rw [holds_fin, holds_bindC]
  refine holds_ix (fun (_ : Unit) _ => True) _ _ trivial (fun v i pat hq H => ?_) (fun v H => ?_)
  · have hpat := hps pat (List.mem_of_getElem? hq)
    rw [check_pattern_ok W hpat.1 hpat.2]
    rw [show (R.bind (R.ok ()) fun _ => (R.ok (Ctl.nx ()) : R (Ctl Unit Unit (List St2)))) = R.ok (Ctl.nx ()) from rfl, holds_ok, onF_nx]
    trivial
  · rw [onC_nx, ch0 (by omega)]
    simp only [R.bind_ok]
    rw [blk_len, holds_bindC]
    refine holds_ix (fun (v : List St2) i => v = ((pats.take i).map (one_ n c p.1.is.length)).flatten) _ _ rfl (fun v i pat hq H => ?_) (fun v H => ?_)
    · have hpat := hps pat (List.mem_of_getElem? hq)
      have hi := get_lt hq
      have hdl : (pat.drop p.1.is.length).length = n := by rw [List.length_drop]; omega
      have hvl : v.length ≤ 100 * 32 := by
        rw [H, flat_len (m := lj n c 0 + 1) fun _ => one_len, List.length_take]
        have : min i pats.length ≤ 100 := by omega
        exact Nat.mul_le_mul this (by omega)
      rw [cutR_from]
      unfold revRg1R
      rw [R.need_pos (by omega)]
      simp only [R.bind_ok, Int.toNat_natCast]
      rw [holds_bindC]
      refine holds_ix (fun (w : List St2) t => w = v ++ (shp n c (pat.drop p.1.is.length)).take t) _ _ (by simp) (fun w t k hk Hw => ?_) (fun w Hw => ?_)
      · obtain ⟨ht, rfl⟩ := steps_dn hk
        have hrow := row_lc (n := n) (c := c) (p := lj n c 0 - 1 - t) hc hdl
        simp only [R.bind_ok] at hrow
        rw [hrow]
        simp only [R.nox_ok, R.bind_ok]
        rw [R.need_pos (by rw [List.length_map, Hw, List.length_append, List.length_take, shp_len]; omega), holds_ok, onF_nx, Hw, List.take_add_one, List.append_assoc]
        congr 2
        unfold shp
        rw [List.getElem?_map, List.getElem?_range ht]
        rfl
      · rw [stepsI_len] at Hw
        have hfull : (shp n c (pat.drop p.1.is.length)).take (lj n c 0) = shp n c (pat.drop p.1.is.length) := List.take_of_length_le (by rw [shp_len]; exact Nat.le_refl _)
        rw [onC_nx, cutR_to]
        rw [R.need_pos (by rw [List.length_map, Hw, List.length_append, List.length_take, shp_len]; omega), holds_ok, onF_nx, Hw, hfull, H, List.take_add_one, hq, List.map_append, List.flatten_append]
        unfold one_
        simp
    · rw [onC_nx]
      rw [List.take_length] at H
      rw [repTR_1 (by omega)]
      simp only [R.bind_ok, Int.toNat_natCast]
      rw [repLR_ok (by omega)]
      simp only [R.bind_ok, Int.toNat_natCast]
      have hvl : v.length ≤ 100 * 32 := by
        rw [H, flat_len (m := lj n c 0 + 1) fun _ => one_len]
        exact Nat.mul_le_mul hl (by omega)
      rw [R.need_pos (by rw [List.length_replicate]; omega), holds_ok, onR_rt, H]
      rfl
theorem law_shifts_ok {n c : Nat} (hn : n < 31) (c0 : 1 ≤ c) (hc : c ≤ 31) {bits : List Int} (hl : bits.length = n) : m_law_shifts (chL n c) bits = .ok (shp n c bits) := by
  have hL := lj_small (c := c) (j := 0) hn (by omega)
  rw [← holds_eq]
  unfold m_law_shifts b_law_shifts
  simp only [R.bind_ok]
  rw [ch0 (by omega)]
  simp only [R.bind_ok]
  rw [blk_len]
  unfold rngDnR
  rw [R.need_pos (by omega)]
  simp only [R.bind_ok]
  rw [show ((lj n c 0 : Int) - 1 - -1).toNat = lj n c 0 by omega, holds_fin, holds_bindC]
  refine holds_ix (fun (w : List St2) t => w = (shp n c bits).take t) _ _ rfl (fun w t k hk Hw => ?_) (fun w Hw => ?_)
  · obtain ⟨ht, rfl⟩ := steps_dn hk
    rw [holds_bindC]
    refine holds_ix (fun (r : List Int) j => r = (rw_ n c bits (lj n c 0 - 1 - t)).take j) _ _ rfl (fun r j ch hch Hr => ?_) (fun r Hr => ?_)
    · have hj := get_lt hch
      rw [show (chL n c).length = c by simp [chL]] at hj
      rw [ch_at hj] at hch
      cases hch
      have hit := item_ok (n := n) (c := c) (j := j) (p := lj n c 0 - 1 - t) hj hl
      simp only [R.bind_ok] at hit
      rw [hit]
      simp only [R.bind_ok]
      rw [R.need_pos (by rw [List.length_map, Hr, List.length_take, rw_len]; omega), holds_ok, onF_nx, Hr, List.take_add_one]
      congr 1
      unfold rw_
      rw [List.getElem?_map, List.getElem?_range hj]
      rfl
    · rw [show (chL n c).length = c by simp [chL], List.take_of_length_le (by rw [rw_len]; exact Nat.le_refl _)] at Hr
      rw [onC_nx, Hr, R.need_pos (by rw [List.length_map, Hw, List.length_take, shp_len]; omega), holds_ok, onF_nx, Hw, List.take_add_one]
      congr 1
      unfold shp
      rw [List.getElem?_map, List.getElem?_range ht]
      rfl
  · rw [stepsI_len, List.take_of_length_le (by rw [shp_len]; exact Nat.le_refl _)] at Hw
    rw [onC_nx, Hw, holds_ok, onR_rt]
def inp (n c : Nat) (bits : List Int) (j p : Nat) : Int := if p < lj n c j then bits.getD (st n c j + p) 0 else 0
def feed (n c : Nat) (f : Nat → List Int) (bits : List Int) (t j : Nat) : List Int := (((List.range t).map fun i => inp n c bits j (lj n c 0 - t + i)) ++ f j).take (lj n c j)
theorem take_cons {α : Type} {b : α} {X : List α} : ∀ m, (b :: X.take m).take m = (b :: X).take m
  | 0 => rfl
  | m + 1 => by rw [List.take_succ_cons, List.take_succ_cons, List.take_take, Nat.min_eq_left (by omega)]
theorem feed_0 {n c : Nat} {f : Nat → List Int} (h : BOk n c f) {bits : List Int} {j : Nat} (hj : j < c) : feed n c f bits 0 j = f j := by
  unfold feed
  rw [← h j hj]
  simp
theorem feed_ok {n c : Nat} {f : Nat → List Int} (h : BOk n c f) (bits : List Int) (t : Nat) : BOk n c (feed n c f bits t) := fun j hj => by
  unfold feed
  rw [List.length_take, List.length_append, h j hj]
  omega
theorem feed_step {n c : Nat} {f : Nat → List Int} {bits : List Int} {t j : Nat} (ht : t < lj n c 0) (hj : j < c) : shB n c (feed n c f bits t) (rw_ n c bits (lj n c 0 - 1 - t)) j = feed n c f bits (t + 1) j := by
  unfold shB feed
  rw [take_cons, List.range_succ_eq_map, List.map_cons, List.map_map, List.cons_append]
  congr 2
  · unfold rw_ inp
    rw [List.getD_eq_getElem?_getD, List.getElem?_map, List.getElem?_range hj]
    show (if _ then _ else _) = _
    rw [show lj n c 0 - (t + 1) + 0 = lj n c 0 - 1 - t by omega]
  · congr 1
    refine List.map_congr_left fun i _ => ?_
    show inp n c bits j _ = inp n c bits j _
    congr 1
    show _ = lj n c 0 - (t + 1) + (i + 1)
    omega
theorem feed_end {n c : Nat} {f : Nat → List Int} {bits : List Int} (hl : bits.length = n) {j : Nat} (hj : j < c) : feed n c f bits (lj n c 0) j = sg n c bits j := by
  have hle := lj_le n c j
  unfold feed sg
  rw [List.take_append_of_le_length (by simp; exact hle), ← List.map_take, List.take_range, Nat.min_eq_left hle]
  apply List.ext_getElem?
  intro i
  rw [List.getElem?_map, List.getElem?_take]
  by_cases hi : i < lj n c j
  · rw [List.getElem?_range hi, if_pos hi, List.getElem?_drop]
    show some (inp n c bits j (lj n c 0 - lj n c 0 + i)) = _
    have := st_in hj hi
    unfold inp
    rw [Nat.sub_self, Nat.zero_add, if_pos hi, List.getD_eq_getElem?_getD, List.getElem?_eq_getElem (by omega)]
    rfl
  · rw [if_neg hi, List.getElem?_eq_none (by simp; omega)]
    rfl
theorem rw_zero {n c p : Nat} : rw_ n c (List.replicate n 0) p = List.replicate c 0 := by
  rw [List.eq_replicate_iff]
  refine ⟨rw_len, fun b hb => ?_⟩
  obtain ⟨j, hj, rfl⟩ := List.mem_map.mp hb
  have hj := List.mem_range.mp hj
  split
  · rename_i hp
    have := st_in hj hp
    rw [List.getD_eq_getElem?_getD, List.getElem?_replicate, if_pos this]
    rfl
  · rfl
theorem shp_zero {n c : Nat} : shp n c (List.replicate n 0) = List.replicate (lj n c 0) (("shift" : Str), List.replicate c 0) := by
  unfold shp
  apply List.ext_getElem
  · simp
  · intro i h1 h2
    rw [List.getElem_map, List.getElem_replicate, rw_zero]
theorem prg_shift {n c many : Nat} {pats : List (List Int)} {k i : Nat} {pat : List Int} (h : pats[k]? = some pat) (hi : i < lj n c 0) : (prg n c many pats)[k * (lj n c 0 + 1) + i]? = some (("shift" : Str), rw_ n c (pat.drop many) (lj n c 0 - 1 - i)) := by
  have hk := get_lt h
  have hlen := flat_len (f := one_ n c many) (m := lj n c 0 + 1) (fun _ => one_len) pats
  unfold prg
  rw [List.getElem?_append_left (by
    rw [hlen]
    have := Nat.mul_le_mul_right (lj n c 0 + 1) (show k + 1 ≤ pats.length by omega)
    rw [Nat.succ_mul] at this
    omega), flat_get (m := lj n c 0 + 1) (fun _ => one_len) (by omega) pats k pat h]
  unfold one_ shp
  rw [List.getElem?_append_left (by simp; exact hi), List.getElem?_map, List.getElem?_range hi]
  rfl
theorem prg_clock {n c many : Nat} {pats : List (List Int)} {k : Nat} {pat : List Int} (h : pats[k]? = some pat) : (prg n c many pats)[k * (lj n c 0 + 1) + lj n c 0]? = some (("clock" : Str), pat.take many) := by
  have hk := get_lt h
  have hlen := flat_len (f := one_ n c many) (m := lj n c 0 + 1) (fun _ => one_len) pats
  unfold prg
  rw [List.getElem?_append_left (by
    rw [hlen]
    have := Nat.mul_le_mul_right (lj n c 0 + 1) (show k + 1 ≤ pats.length by omega)
    rw [Nat.succ_mul] at this
    omega), flat_get (m := lj n c 0 + 1) (fun _ => one_len) (by omega) pats k pat h]
  unfold one_
  rw [List.getElem?_append_right (by rw [shp_len]; omega), shp_len, Nat.sub_self]
  rfl
theorem prg_drop {n c many : Nat} {pats : List (List Int)} : (prg n c many pats).drop (pats.length * (lj n c 0 + 1)) = List.replicate (lj n c 0) (("shift" : Str), List.replicate c 0) := by
  have hlen := flat_len (f := one_ n c many) (m := lj n c 0 + 1) (fun _ => one_len) pats
  unfold prg
  rw [← hlen, List.drop_left]
end
end CC
set_option maxHeartbeats 1000000
namespace CC
open PySem PySem.Spec PyProof.Rows L2 Qw Mw RZ
open Evl hiding ea_cons
open Pw (Dt Rp RpL Wk R2d R1d RLd RLn Kq KqL spX2 Xm Xm0 cr_int cr_min2 cr_max2 cr_list cr_tuple rTupS cr_len pe_globI pe_globS pe_globR pe_tyname)
section
def insN (m : Nat) : List Str := (["a", "b", "c"] : List Str).take m
def regs (n : Nat) : List (Str × Str) := (List.range n).map fun k : Nat => (("r" : Str) ++ strI (k : Int), ("one" : Str))
def g1 : Gt := ⟨"one", "high", []⟩
def cK (m n : Nat) : Cp := ⟨insN m, regs n, [g1], ["one"]⟩
def preB (c : Cp) : Bool := decide (c.is.length ≤ 1000) && decide (c.rs.length ≤ 1000) && decide (linesOf c.is c.rs c.gs).Nodup && decide ((linesOf c.is c.rs c.gs).length ≤ 60) && decide ((srcOf c.is c.rs).length ≤ 40) && (linesOf c.is c.rs c.gs).all (fun x => nameB x && okStr x && decide (x.length ≤ 12)) && (usesOf c).all (fun y => decide (y ∈ linesOf c.is c.rs c.gs))
theorem preB_all : ((List.range 4).all fun m => (List.range 10).all fun n => preB (cK m n)) = true := by decide +kernel
theorem g1_kind : g1.k ∈ KIN ∧ mayHave g1.k g1.ps.length = true := by decide +kernel
theorem pre_cK {m n : Nat} (hm : m < 4) (hn : n < 10) : Pre (cK m n) := by
  have h := List.all_eq_true.mp (List.all_eq_true.mp preB_all m (List.mem_range.mpr hm)) n (List.mem_range.mpr hn)
  unfold preB at h
  simp only [Bool.and_eq_true, decide_eq_true_eq, List.all_eq_true] at h
  obtain ⟨⟨⟨⟨⟨⟨h1, h2⟩, h3⟩, h4⟩, h5⟩, h6⟩, h7⟩ := h
  refine ⟨⟨h1, h2, (by show 1 ≤ 1000; decide), (by show 1 ≤ 1000; decide), fun g hg => ?_⟩, h3, h4, h5, fun x hx => ?_, fun g hg => ?_, h7, ⟨fun _ => 0, fun g hg x hx => ?_⟩⟩
  · rw [List.mem_singleton.mp hg]
    decide
  · have := h6 x hx
    exact ⟨this.1.1, this.1.2, this.2⟩
  · rw [List.mem_singleton.mp hg]
    exact g1_kind
  · rw [List.mem_singleton.mp hg] at hx
    cases hx
theorem okLen : (List.range 31).all (fun k : Nat => decide (("r" : Str).length + (strI (k : Int)).length ≤ 100000)) = true := by decide +kernel
theorem gv_high : gv "high" [] = 1 := by decide +kernel
theorem outs_one {p : CV} (W : Wf p) {m n : Nat} (e : p.1 = cK m n) {pat : List Int} (hl : pat.length = (src p).length) (hb : ∀ b ∈ pat, bit b) : outs p (vm 2 p .ok pat) = List.replicate (n + 1) 1 := by
  have H := (v2_ok W (v := .ok) trivial hl hb).2.1
  have hg : g1 ∈ p.2 := W.perm.mem_iff.mpr (by rw [e]; exact List.mem_singleton.mpr rfl)
  have h1 := H.gt g1 hg
  have h2 : getV (vm 2 p .ok pat) "one" = some 1 := by
    rw [← gv_high]
    exact h1.2.2
  rw [List.eq_replicate_iff]
  unfold outs
  rw [e]
  refine ⟨by rw [List.length_map]; simp [sinkOf, cK, regs], fun b hb' => ?_⟩
  obtain ⟨x, hx, rfl⟩ := List.mem_map.mp hb'
  have : x = "one" := by
    unfold sinkOf at hx
    rcases List.mem_append.mp hx with z | z
    · exact List.mem_singleton.mp z
    · obtain ⟨r, hr, rfl⟩ := List.mem_map.mp z
      obtain ⟨k, _, rfl⟩ := List.mem_map.mp hr
      rfl
  rw [this, h2]
  rfl
theorem samSteps : SamB 5 (eL (eP2 eS (eT eI))) (fun ys => ys.length ≤ 100000 ∧ ∀ y ∈ ys, True ∧ (y.2.length ≤ 100000 ∧ ∀ z ∈ y.2, True)) :=
  samB_lst (samB_p2 (n := 2) (ok1 := fun _ => True) (fun m hm a b _ => samE_str m (by omega) a b) (samB_tup samE_int.b))
theorem bits_lcS {n n1 : Nat} (hk : n1 = n) (hn : n ≤ 40000) {s : Dr} {Q : List Int × Dr → Prop} (hq : ∀ l s', l.length = n → (∀ b ∈ l, bit b) → Q (l, s')) : Holds (R.lcS (rangeI 0 n1) s (fun _ s_83 => (R.ok (true, s_83))) (fun (_ : Int) s_83 => (R.bind2 (R.bind (R.ok ((2 : Int), ())) fun a_ => R.ok (a_, s_83)) fun t_84 s_85 => R.bind2 (R.nox (m_law_draw s_85 t_84.1)) fun z_ y_ => R.ok (z_, y_)))) Q := by
  subst hk
  refine holds_lcS (fun _ => True) (fun _ y => bit y) (by rw [rangeI_len]; omega) trivial (fun a _ s _ => ?_) (fun l s' hl hr _ => ?_)
  · simp only [holds_bind, holds_bind2, holds_ok, holds_nox, m_law_draw]
    exact holds_draw (by omega) (by omega) fun k s2 k0 k1 => ⟨by unfold bit; omega, trivial⟩
  · rw [rangeI_len] at hl
    refine hq l s' hl fun y hy => ?_
    obtain ⟨i, hi⟩ := List.getElem?_of_mem hy
    have hlt := get_lt hi
    exact hr i _ y (List.getElem?_eq_getElem (by rw [rangeI_len]; omega)) hi
theorem rep_bit {n : Nat} {x : Int} (h : bit x) : ∀ b ∈ List.replicate n x, bit b := fun b hb => by rw [List.eq_of_mem_replicate hb]; exact h
theorem law_true (xs : List Int) : m_law xs = .ok true := by
  rw [← holds_eq]
  unfold m_law b_law
  simp only [m_law_draws, R.bind_ok, R.nox_ok]
  rw [holds_fin, holds_bind2]
  refine (show Holds _ (fun q : Int × Dr => ∃ m : Nat, q.1 = (m : Int) ∧ m < 4) from by
    simp only [holds_bind2, holds_bind, holds_ok, holds_nox, m_law_draw]
    exact holds_draw (by omega) (by omega) fun v d' h0 h1 => ⟨v.toNat, by omega, by omega⟩).imp fun q hq => ?_
  obtain ⟨_, s1⟩ := q
  obtain ⟨m, rfl, hm⟩ := hq
  simp only
  rw [holds_bind2]
  refine (show Holds _ (fun q : Int × Dr => ∃ m : Nat, q.1 = (m : Int) ∧ m < 10) from by
    simp only [holds_bind2, holds_bind, holds_ok, holds_nox, m_law_draw]
    exact holds_draw (by omega) (by omega) fun v d' h0 h1 => ⟨v.toNat, by omega, by omega⟩).imp fun q hq => ?_
  obtain ⟨_, s2⟩ := q
  obtain ⟨n, rfl, hn⟩ := hq
  simp only
  rw [cutR_to, R.need_pos (by omega), Int.toNat_natCast]
  simp only [R.bind_ok]
  rw [R.lcR_mapOn (v := fun k : Int => (("r" : Str) ++ strI k, ("one" : Str))) (by rw [rangeI_len]; omega) fun k hk => ?_]
  rotate_left
  · obtain ⟨i, hi, rfl⟩ := rangeI_mem.mp hk
    have hl := of_decide_eq_true (List.all_eq_true.mp okLen i (List.mem_range.mpr (by omega)))
    rw [Int.zero_add]
    unfold strR addSR
    rw [R.need_pos (by omega)]
    simp only [R.bind_ok]
    rw [R.need_pos hl]
    rfl
  simp only [R.nox_ok, R.bind_ok]
  rw [show (rangeI 0 n).map (fun k => (("r" : Str) ++ strI k, ("one" : Str))) = regs n from rangeI0_map]
  obtain ⟨p, e, W, ei⟩ := (pre_cK hm hn).made
  rw [show m_Circuit_init (List.take m [("a" : Str), "b", "c"]) (regs n) [(⟨"one", "high", []⟩ : Gt)] ["one"] = .ok p from ei]
  simp only [R.nox_ok, R.bind_ok]
  have hrs : p.1.rs.length = n := by rw [e]; simp [cK, regs]
  have his : p.1.is.length = m := by
    rw [e]
    show (insN m).length = m
    unfold insN
    rw [List.length_take]
    simp
    omega
  have hsl : (src p).length = m + n := by rw [src_len]; omega
  have hos : p.1.os.length = 1 := by rw [e]; rfl
  rw [max_eq, holds_bind2]
  refine (show Holds _ (fun q : Int × Dr => ∃ c : Nat, q.1 = (c : Int) ∧ 1 ≤ c ∧ c ≤ max 1 n) from by
    simp only [holds_bind2, holds_bind, holds_ok, holds_nox, m_law_draw]
    exact holds_draw (by omega) (by omega) fun v d' h0 h1 => ⟨(1 + v).toNat, by omega, by omega, by omega⟩).imp fun q hq => ?_
  obtain ⟨_, s3⟩ := q
  obtain ⟨c, rfl, c0, c1⟩ := hq
  have hc : c ≤ 31 := by omega
  have hL := lj_small (n := n) (c := c) (j := 0) (by omega) (by omega)
  simp only
  rw [holds_bind2]
  refine (show Holds _ (fun q : List (List Int) × Dr => q.1.length ≤ 6 ∧ ∀ pat ∈ q.1, pat.length = (src p).length ∧ ∀ b ∈ pat, bit b) from by
    simp only [holds_bind2, holds_bind, holds_ok, holds_nox, holds_need, m_law_draw]
    refine holds_draw (by omega) (by omega) fun k s k0 k1 => ⟨by omega, ?_⟩
    refine holds_lcS (fun _ => True) (fun _ (y : List Int) => y.length = (src p).length ∧ ∀ b ∈ y, bit b) (by rw [rangeI_len]; omega) trivial (fun a _ s _ => ?_) (fun l s' hl hr _ => ?_)
    · simp only [holds_bind2, holds_bind, holds_ok, holds_nox, holds_need]
      refine ⟨by omega, ?_⟩
      exact bits_lcS (n := m + n) (by omega) (by omega) fun l s' hl hb => ⟨⟨by show l.length = (src p).length; omega, hb⟩, trivial⟩
    · rw [rangeI_len] at hl
      refine ⟨by show l.length ≤ 6; omega, fun y hy => ?_⟩
      obtain ⟨i, hi⟩ := List.getElem?_of_mem hy
      have hi : l[i]? = some y := hi
      have hlt := get_lt hi
      exact hr i _ y (List.getElem?_eq_getElem (by rw [rangeI_len]; omega)) hi).imp fun q hq => ?_
  obtain ⟨pats, s4⟩ := q
  obtain ⟨hpl, hps⟩ := hq
  simp only at hpl hps ⊢
  have hdl : ∀ pat ∈ pats, (pat.drop m).length = n ∧ (pat.take m).length = m := fun pat h => by
    have := (hps pat h).1
    rw [List.length_drop, List.length_take]
    omega
  rw [law_chains_ok (by omega) c0 c1]
  simp only [R.nox_ok, R.bind_ok]
  rw [holds_bindC]
  have hfl : ∀ l : List (List Int), (l.map (one_ n c m)).flatten.length = l.length * (lj n c 0 + 1) := flat_len (m := lj n c 0 + 1) fun _ => one_len
  refine holds_ix (fun (v : List St2) i => v = ((pats.take i).map (one_ n c m)).flatten) _ _ rfl (fun v i pat hq H => ?_) (fun v H => ?_)
  · have hi := get_lt hq
    have hd := hdl pat (List.mem_of_getElem? hq)
    have hvl : v.length ≤ 6 * 32 := by
      rw [H, hfl, List.length_take]
      exact Nat.mul_le_mul (by omega) (by omega)
    rw [cutR_from, cutR_to, law_shifts_ok (by omega) c0 hc hd.1]
    simp only [R.nox_ok, R.bind_ok]
    rw [catR_ok (by rw [shp_len]; omega)]
    simp only [R.bind_ok]
    rw [catR_ok (by rw [List.length_append, shp_len]; simp; omega)]
    simp only [R.bind_ok]
    rw [holds_ok, onF_nx, H, List.take_add_one, hq, List.map_append, List.flatten_append]
    unfold one_
    simp
  · rw [List.take_length] at H
    have hvl : v.length ≤ 6 * 32 := by
      rw [H, hfl]
      exact Nat.mul_le_mul hpl (by omega)
    rw [onC_nx, repTR_1 (by omega), Int.toNat_natCast]
    simp only [R.bind_ok]
    rw [law_shifts_ok (by omega) c0 hc (by simp)]
    simp only [R.nox_ok, R.bind_ok]
    rw [catR_ok (by rw [shp_len]; omega)]
    simp only [R.bind_ok]
    have hdue : v ++ shp n c (List.replicate n 0) = prg n c m pats := by
      rw [H, shp_zero]
      rfl
    rw [hdue, program_ok W hrs (by omega) c0 c1 (by omega) hps, his]
    simp only [R.nox_ok, R.bind_ok]
    have hpr : (prg n c m pats).length ≤ 1000 := by
      unfold prg
      rw [List.length_append, hfl, List.length_replicate]
      have := Nat.mul_le_mul hpl (show lj n c 0 + 1 ≤ 32 by omega)
      omega
    rw [samSteps 6 (by omega) _ _ ⟨by omega, fun y hy => ⟨trivial, ?_, fun _ _ => trivial⟩⟩]
    rotate_left
    · unfold prg at hy
      rcases List.mem_append.mp hy with z | z
      · obtain ⟨l, hl, hyl⟩ := List.mem_flatten.mp z
        obtain ⟨pat, hpat, rfl⟩ := List.mem_map.mp hl
        unfold one_ at hyl
        rcases List.mem_append.mp hyl with w | w
        · obtain ⟨t, _, rfl⟩ := List.mem_map.mp w
          show (rw_ n c _ _).length ≤ _
          rw [rw_len]
          omega
        · rw [List.mem_singleton.mp w]
          show (pat.take m).length ≤ _
          have := (hdl pat hpat).2
          omega
      · rw [List.eq_of_mem_replicate z]
        show (List.replicate c (0 : Int)).length ≤ _
        rw [List.length_replicate]
        omega
    simp only [decide_true, R.nox_ok, R.bind_ok, Bool.not_true, Bool.false_eq_true, if_false]
    rw [holds_bind2]
    refine (show Holds _ (fun q : TsV × Dr => ∃ h : List Int, q.1 = (p, Ver.ok.d, chL n c, h) ∧ h.length = n ∧ ∀ b ∈ h, bit b) from by
      simp only [holds_bind2, holds_bind, holds_ok, holds_nox, holds_need]
      refine bits_lcS (n := n) rfl (by omega) fun l s' hl hb => ?_
      rw [show eU () = Ver.ok.d from rfl, made_ok W (v := .ok) trivial hrs (by omega) c0 c1 hl hb, holds_ok]
      exact ⟨l, rfl, hl, hb⟩).imp fun q hq => ?_
    obtain ⟨_, s5⟩ := q
    obtain ⟨h, rfl, hhl, hhb⟩ := hq
    simp only
    rw [holds_bindC]
    refine holds_ix (fun (v : TsV × Int) k => ∃ h : List Int, v = ((p, Ver.ok.d, chL n c, h), ((k * (lj n c 0 + 1) : Nat) : Int)) ∧ h.length = n ∧ ∀ b ∈ h, bit b) _ _ ⟨h, by simp, hhl, hhb⟩ (fun v k pat hq H => ?_) (fun v H => ?_)
    · obtain ⟨h, rfl, hhl, hhb⟩ := H
      have hpat := hps pat (List.mem_of_getElem? hq)
      have hd := hdl pat (List.mem_of_getElem? hq)
      have hdb : ∀ b ∈ pat.drop m, bit b := fun b hb => hpat.2 b (List.mem_of_mem_drop hb)
      have htb : ∀ b ∈ pat.take m, bit b := fun b hb => hpat.2 b (List.mem_of_mem_take hb)
      have hB := sg_len (n := n) (c := c) (by omega) hhl
      rw [ch0 (by omega)]
      simp only [R.bind_ok]
      rw [blk_len, R.need_pos (by omega), Int.toNat_natCast]
      simp only [R.bind_ok]
      rw [holds_bindC]
      refine holds_ix (fun (v : TsV × Int) i => v = ((p, Ver.ok.d, chL n c, bk (feed n c (sg n c h) (pat.drop m) i) c), ((k * (lj n c 0 + 1) + i : Nat) : Int))) _ _ ?_ (fun v i z hz Hv => ?_) (fun v Hv => ?_)
      · rw [bk_congr (g := sg n c h) fun j hj => feed_0 hB hj, sg_bk (by omega) hhl]
        rfl
      · have hi := get_lt hz
        rw [rangeI_len] at hi
        subst Hv
        simp only
        rw [ixR_ok (j := k * (lj n c 0 + 1) + i) rfl (prg_shift hq hi)]
        simp only [R.bind_ok, R.bind2_ok]
        rw [shift_ok (by omega) hc (feed_ok hB _ _) rw_len (rw_bit hd.1 hdb)]
        simp only [R.nox_ok, R.bind2_ok, R.bind_ok]
        rw [holds_ok, onF_nx, bk_congr fun j hj => feed_step hi hj]
        refine Prod.ext rfl ?_
        show ((k * (lj n c 0 + 1) + i : Nat) : Int) + 1 = ((k * (lj n c 0 + 1) + (i + 1) : Nat) : Int)
        omega
      · rw [rangeI_len] at Hv
        subst Hv
        rw [onC_nx]
        simp only
        rw [stored_ok]
        simp only [R.nox_ok, R.bind_ok]
        rw [bk_congr (g := sg n c (pat.drop m)) fun j hj => feed_end hd.1 hj, sg_bk (by omega) hd.1, cutR_from]
        simp only [decide_true, Bool.not_true, Bool.false_eq_true, if_false]
        rw [ixR_ok (j := k * (lj n c 0 + 1) + lj n c 0) rfl (prg_clock hq)]
        simp only [R.bind_ok, R.bind2_ok]
        rw [clock_ok W (v := .ok) trivial (by rw [his]; exact hd.2) (by rw [hrs]; exact hd.1) htb hdb]
        simp only [R.nox_ok, R.bind2_ok, R.bind_ok]
        have hout : outs p (vm 2 p .ok (pat.take m ++ pat.drop m)) = List.replicate (n + 1) 1 := outs_one W e (by rw [List.take_append_drop]; exact hpat.1) (by rw [List.take_append_drop]; exact hpat.2)
        have hoo : oo p .ok (pat.take m) (pat.drop m) = [1] := by
          unfold oo
          rw [hout, hos]
          simp
        have hhh : hh p .ok (pat.take m) (pat.drop m) = List.replicate n 1 := by
          unfold hh
          rw [hout, hos]
          simp
        rw [hoo, hhh]
        simp only [decide_true, Bool.not_true, Bool.false_eq_true, if_false, R.bind2_ok, R.bind_ok]
        rw [stored_ok, repTR_1 (by omega), Int.toNat_natCast]
        simp only [R.nox_ok, R.bind_ok, decide_true, Bool.not_true, Bool.false_eq_true, if_false, R.bind2_ok]
        rw [holds_ok, onF_nx]
        refine ⟨List.replicate n 1, Prod.ext rfl ?_, by simp, rep_bit (.inr rfl)⟩
        show ((k * (lj n c 0 + 1) + lj n c 0 : Nat) : Int) + 1 = (((k + 1) * (lj n c 0 + 1) : Nat) : Int)
        rw [Nat.succ_mul]
        omega
    · obtain ⟨h, rfl, hhl, hhb⟩ := H
      have hB := sg_len (n := n) (c := c) (by omega) hhl
      rw [onC_nx]
      simp only
      rw [cutR_from, prg_drop, holds_bindC]
      refine holds_ix (fun (v : TsV) i => v = (p, Ver.ok.d, chL n c, bk (feed n c (sg n c h) (List.replicate n 0) i) c)) _ _ ?_ (fun v i z hz Hv => ?_) (fun v Hv => ?_)
      · rw [bk_congr (g := sg n c h) fun j hj => feed_0 hB hj, sg_bk (by omega) hhl]
      · have hi := get_lt hz
        rw [List.length_replicate] at hi
        rw [List.getElem?_replicate, if_pos hi] at hz
        cases hz
        subst Hv
        simp only [R.bind_ok, R.bind2_ok]
        rw [← rw_zero (n := n) (c := c) (p := lj n c 0 - 1 - i), shift_ok (by omega) hc (feed_ok hB _ _) rw_len (rw_bit (by simp) (rep_bit (.inl rfl)))]
        simp only [R.nox_ok, R.bind2_ok, R.bind_ok]
        rw [holds_ok, onF_nx, bk_congr fun j hj => feed_step hi hj]
      · rw [List.length_replicate] at Hv
        subst Hv
        rw [onC_nx, stored_ok]
        simp only [R.nox_ok, R.bind_ok]
        rw [bk_congr (g := sg n c (List.replicate n 0)) fun j hj => feed_end (by simp) hj, sg_bk (by omega) (by simp)]
        rw [holds_ok, onR_rt]
        exact decide_eq_true rfl
end
end CC
set_option maxHeartbeats 4000000
namespace CC
open PySem PySem.Spec PyProof.Rows L2 Qw Mw
open Evl hiding ea_cons
open Pw (Dt Rp RpL Wk spX2 Xm Xm0)
section
variable {P : Program} {w : World} {K : PySem.W.Frag} {mg : Str → Option Value} {base : Heap}
theorem sc_iBadCircuit : FnScope [("self" : Str), "reason", "name"] [("self" : Str), "reason", "name"] (defScope s_iBadCircuit) := ⟨rfl, rfl, rfl, by decide +kernel, rfl, by decide +kernel, by decide +kernel⟩
theorem xm_BadCircuit {C fI : Addr} {fd : FuncData} (F : FunD K "__init__" "BadCircuit.__init__" (defArgs s_iBadCircuit) (defBody s_iBadCircuit) (defScope s_iBadCircuit) [] [] fI fd) (hm : mg "BadCircuit" = some (.ref C)) (T : OexC K C) (iC : PySem.W.findIn K (.ref C) "__init__" = some (some (.ref fI))) (tI : PySem.W.typeIn K (.ref fI) = some (.type "function"))
    (n1 : PySem.W.findIn K (.ref C) "reason" = some none) (n2 : PySem.W.findIn K (.ref C) "name" = some none) : Xm P w K mg base "BadCircuit" C (spX2 C "reason" "name") :=
  ⟨fI, fd, [("self" : Str), "reason", "name"], hm, T, iC, tI, F.bindsN fun _ _ _ _ _ _ us hl => match us, hl with | [_, _, _], _ => rfl,
    init2c F sc_iBadCircuit T n1 n2 fun cdv A outer s H E => pss_cons (ps_ost (pv 0) (pv 1)) (pss_one (ps_ost (pv 0) (pv 2)))⟩
theorem lawOk {h : Heap} (X : K.In h) (G : h.Ns mainGlobals mg) (c : He.SaysD faL fnL K) (m : exB K = true) : ∀ base : Heap, FxL P w K mg base 16 "law" ["script"] (spR P w K (R_law K)) s_law := by
  intro base
  unfold exB at m
  simp only [List.all_cons, List.all_nil, id, Bool.and_eq_true, decide_eq_true_eq, and_true] at m
  obtain ⟨m0, m1, m2, m3, m4, m5⟩ := m
  have T : Txt K mg := {
    f_all := He.free_ok X G (c.fact 71 (f := .free "all") rfl)
    f_bool := He.free_ok X G (c.fact 72 (f := .free "bool") rfl)
    f_int := He.free_ok X G (c.fact 73 (f := .free "int") rfl)
    f_isinstance := He.free_ok X G (c.fact 74 (f := .free "isinstance") rfl)
    f_len := He.free_ok X G (c.fact 75 (f := .free "len") rfl)
    f_list := He.free_ok X G (c.fact 76 (f := .free "list") rfl)
    f_max := He.free_ok X G (c.fact 77 (f := .free "max") rfl)
    f_range := He.free_ok X G (c.fact 78 (f := .free "range") rfl)
    f_reversed := He.free_ok X G (c.fact 79 (f := .free "reversed") rfl)
    f_set := He.free_ok X G (c.fact 80 (f := .free "set") rfl)
    f_str := He.free_ok X G (c.fact 81 (f := .free "str") rfl)
    f_sum := He.free_ok X G (c.fact 82 (f := .free "sum") rfl)
    f_tuple := He.free_ok X G (c.fact 83 (f := .free "tuple") rfl)
    f_zip := He.free_ok X G (c.fact 84 (f := .free "zip") rfl)
    g_MOST_PATTERNS := He.int_ok X G (c.fact 85 (f := .int "MOST_PATTERNS" 1000) rfl)
    g_MOST_NAME := He.int_ok X G (c.fact 86 (f := .int "MOST_NAME" 12) rfl)
    g_MOST_PINS := He.int_ok X G (c.fact 87 (f := .int "MOST_PINS" 4) rfl)
    g_MOST_LINES := He.int_ok X G (c.fact 88 (f := .int "MOST_LINES" 400) rfl)
    g_MOST_SOURCES := He.int_ok X G (c.fact 89 (f := .int "MOST_SOURCES" 40) rfl)
    g__LETTERS := He.str_ok X G (c.fact 90 (f := .str "_LETTERS" "abcdefghijklmnopqrstuvwxyz") rfl)
    g__CHARACTERS := He.str_ok X G (c.fact 91 (f := .str "_CHARACTERS" "abcdefghijklmnopqrstuvwxyz0123456789_") rfl)
    k_Tester := He.cls_ok (c.fact 54 (f := .cls "Tester") rfl)
    a_Tester := fun f hf => by
      simp only [List.mem_cons, List.not_mem_nil, or_false] at hf
      rcases hf with rfl | rfl | rfl | rfl
      · exact He.noat_ok (c.fact 55 (f := .noat "Tester" "circuit") rfl)
      · exact He.noat_ok (c.fact 56 (f := .noat "Tester" "version") rfl)
      · exact He.noat_ok (c.fact 57 (f := .noat "Tester" "chains") rfl)
      · exact He.noat_ok (c.fact 58 (f := .noat "Tester" "held") rfl)
    g_KINDS := He.glo_ok X G (c.fact 61 (f := .glo "KINDS") rfl)
    t_KINDS := fun H => by
      have := He.tupB_ok m4 H
      have e : kinD.map (He.Dv.v K) = KIN.map V.str := by unfold kinD; rw [List.map_map]; rfl
      rw [e] at this
      exact this
    k_Circuit := He.cls_ok (c.fact 62 (f := .cls "Circuit") rfl)
    a_Circuit := fun f hf => by
      simp only [List.mem_cons, List.not_mem_nil, or_false] at hf
      rcases hf with rfl | rfl | rfl | rfl | rfl | rfl
      · exact He.noat_ok (c.fact 64 (f := .noat "Circuit" "inputs") rfl)
      · exact He.noat_ok (c.fact 65 (f := .noat "Circuit" "registers") rfl)
      · exact He.noat_ok (c.fact 66 (f := .noat "Circuit" "gates") rfl)
      · exact He.noat_ok (c.fact 67 (f := .noat "Circuit" "outputs") rfl)
      · exact He.noat_ok (c.fact 68 (f := .noat "Circuit" "gate_of") rfl)
      · exact He.noat_ok (c.fact 69 (f := .noat "Circuit" "order") rfl)
    c_BadCircuit := He.glo_ok X G (c.fact 50 (f := .glo "BadCircuit") rfl)
    x_BadCircuit := xfB_ok m3
    n_reason := He.noat_ok (c.fact 59 (f := .noat "BadCircuit" "reason") rfl)
    n_name := He.noat_ok (c.fact 60 (f := .noat "BadCircuit" "name") rfl)
    e_BadCircuit := He.exm_ok (c.fact 63 (f := .exm "BadCircuit" "BadCircuit" true) rfl)
    g_CONTRARY := He.glo_ok X G (c.fact 70 (f := .glo "CONTRARY") rfl)
    t_CONTRARY := fun H => by
      have := He.tupB_ok m5 H
      have e : D_CONTRARY_.map (He.Dv.v K) = G_CONTRARY.map V.str := by unfold D_CONTRARY_; rw [List.map_map]; rfl
      rw [e] at this
      exact this }
  have X_BadBreak : Xm1 K mg "BadBreak" (He.ga K "BadBreak") := by
    obtain ⟨e1, e2, e3, e4⟩ := He.exc_ok (c.fact 51 (f := .exc "BadBreak") rfl)
    exact ⟨He.glo_ok X G (c.fact 47 (f := .glo "BadBreak") rfl), e1, e2, e3, e4⟩
  have X_BadPattern : Xm1 K mg "BadPattern" (He.ga K "BadPattern") := by
    obtain ⟨e1, e2, e3, e4⟩ := He.exc_ok (c.fact 52 (f := .exc "BadPattern") rfl)
    exact ⟨He.glo_ok X G (c.fact 48 (f := .glo "BadPattern") rfl), e1, e2, e3, e4⟩
  have X_BadTester : Xm1 K mg "BadTester" (He.ga K "BadTester") := by
    obtain ⟨e1, e2, e3, e4⟩ := He.exc_ok (c.fact 53 (f := .exc "BadTester") rfl)
    exact ⟨He.glo_ok X G (c.fact 49 (f := .glo "BadTester") rfl), e1, e2, e3, e4⟩
  have X_BadCircuit : Xm P w K mg base "BadCircuit" (He.ga K "BadCircuit") (spX2 (He.ga K "BadCircuit") "reason" "name") := by
    obtain ⟨fd, F⟩ := c.def_ 45 (d := dd_iBadCircuit) rfl
    exact xm_BadCircuit F (He.glo_ok X G (c.fact 50 (f := .glo "BadCircuit") rfl)) (oexB_ok m0) m1 m2 (He.noat_ok (c.fact 59 (f := .noat "BadCircuit" "reason") rfl)) (He.noat_ok (c.fact 60 (f := .noat "BadCircuit" "name") rfl))
  have D_is_name : Dx K mg "is_name" ["value"] s_is_name := by
    obtain ⟨fd, F⟩ := c.def_ 0 (d := dd_is_name) rfl
    exact ⟨_, fd, He.glo_ok X G (c.fact 0 (f := .glo "is_name") rfl), F, F.bindsN fun _ _ _ _ _ _ us hl => match us, hl with | [_], _ => rfl⟩
  have D_may_have : Dx K mg "_may_have" ["kind", "count"] s_may_have := by
    obtain ⟨fd, F⟩ := c.def_ 1 (d := dd_may_have) rfl
    exact ⟨_, fd, He.glo_ok X G (c.fact 1 (f := .glo "_may_have") rfl), F, F.bindsN fun _ _ _ _ _ _ us hl => match us, hl with | [_, _], _ => rfl⟩
  have D_are_names : Dx K mg "_are_names" ["items"] s_are_names := by
    obtain ⟨fd, F⟩ := c.def_ 2 (d := dd_are_names) rfl
    exact ⟨_, fd, He.glo_ok X G (c.fact 2 (f := .glo "_are_names") rfl), F, F.bindsN fun _ _ _ _ _ _ us hl => match us, hl with | [_], _ => rfl⟩
  have D_is_register : Dx K mg "_is_register" ["value"] s_is_register := by
    obtain ⟨fd, F⟩ := c.def_ 3 (d := dd_is_register) rfl
    exact ⟨_, fd, He.glo_ok X G (c.fact 3 (f := .glo "_is_register") rfl), F, F.bindsN fun _ _ _ _ _ _ us hl => match us, hl with | [_], _ => rfl⟩
  have D_is_gate : Dx K mg "is_gate" ["value"] s_is_gate := by
    obtain ⟨fd, F⟩ := c.def_ 4 (d := dd_is_gate) rfl
    exact ⟨_, fd, He.glo_ok X G (c.fact 4 (f := .glo "is_gate") rfl), F, F.bindsN fun _ _ _ _ _ _ us hl => match us, hl with | [_], _ => rfl⟩
  have D_check_form : Dx K mg "_check_form" ["inputs", "registers", "gates", "outputs"] s_check_form := by
    obtain ⟨fd, F⟩ := c.def_ 5 (d := dd_check_form) rfl
    exact ⟨_, fd, He.glo_ok X G (c.fact 5 (f := .glo "_check_form") rfl), F, F.bindsN fun _ _ _ _ _ _ us hl => match us, hl with | [_, _, _, _], _ => rfl⟩
  have D_check_driven_once : Dx K mg "_check_driven_once" ["lines"] s_check_driven_once := by
    obtain ⟨fd, F⟩ := c.def_ 6 (d := dd_check_driven_once) rfl
    exact ⟨_, fd, He.glo_ok X G (c.fact 6 (f := .glo "_check_driven_once") rfl), F, F.bindsN fun _ _ _ _ _ _ us hl => match us, hl with | [_], _ => rfl⟩
  have D_check_known : Dx K mg "_check_known" ["lines", "names"] s_check_known := by
    obtain ⟨fd, F⟩ := c.def_ 7 (d := dd_check_known) rfl
    exact ⟨_, fd, He.glo_ok X G (c.fact 7 (f := .glo "_check_known") rfl), F, F.bindsN fun _ _ _ _ _ _ us hl => match us, hl with | [_, _], _ => rfl⟩
  have D_check_size : Dx K mg "_check_size" ["lines", "sources"] s_check_size := by
    obtain ⟨fd, F⟩ := c.def_ 8 (d := dd_check_size) rfl
    exact ⟨_, fd, He.glo_ok X G (c.fact 8 (f := .glo "_check_size") rfl), F, F.bindsN fun _ _ _ _ _ _ us hl => match us, hl with | [_, _], _ => rfl⟩
  have D_in_order : Dx K mg "_in_order" ["sources", "gates"] s_in_order := by
    obtain ⟨fd, F⟩ := c.def_ 9 (d := dd_in_order) rfl
    exact ⟨_, fd, He.glo_ok X G (c.fact 9 (f := .glo "_in_order") rfl), F, F.bindsN fun _ _ _ _ _ _ us hl => match us, hl with | [_, _], _ => rfl⟩
  have D_Circuit_lines : Dm K (He.ga K "Circuit") "lines" "Circuit.lines" ["self"] s_Circuit_lines := by
    obtain ⟨fd, F⟩ := c.def_ 10 (d := dd_Circuit_lines) rfl
    exact ⟨_, fd, He.meth_ok (c.fact 11 (f := .meth "Circuit" "lines") rfl), F, F.bindsN fun _ _ _ _ _ _ us hl => match us, hl with | [_], _ => rfl⟩
  have D_Circuit_sources : Dm K (He.ga K "Circuit") "sources" "Circuit.sources" ["self"] s_Circuit_sources := by
    obtain ⟨fd, F⟩ := c.def_ 11 (d := dd_Circuit_sources) rfl
    exact ⟨_, fd, He.meth_ok (c.fact 12 (f := .meth "Circuit" "sources") rfl), F, F.bindsN fun _ _ _ _ _ _ us hl => match us, hl with | [_], _ => rfl⟩
  have D_Circuit_sinks : Dm K (He.ga K "Circuit") "sinks" "Circuit.sinks" ["self"] s_Circuit_sinks := by
    obtain ⟨fd, F⟩ := c.def_ 12 (d := dd_Circuit_sinks) rfl
    exact ⟨_, fd, He.meth_ok (c.fact 13 (f := .meth "Circuit" "sinks") rfl), F, F.bindsN fun _ _ _ _ _ _ us hl => match us, hl with | [_], _ => rfl⟩
  have D_Circuit_init : Di K mg (He.ga K "Circuit") "Circuit" "Circuit.__init__" ["self", "inputs", "registers", "gates", "outputs"] s_Circuit_init := by
    obtain ⟨fd, F⟩ := c.def_ 13 (d := dd_Circuit_init) rfl
    exact ⟨_, fd, He.glo_ok X G (c.fact 10 (f := .glo "Circuit") rfl), He.mkr_ok (c.fact 14 (f := .mkr "Circuit") rfl), F, F.bindsN fun _ _ _ _ _ _ us hl => match us, hl with | [_, _, _, _, _], _ => rfl⟩
  have D_Circuit_above : Dm K (He.ga K "Circuit") "above" "Circuit.above" ["self", "line"] s_Circuit_above := by
    obtain ⟨fd, F⟩ := c.def_ 14 (d := dd_Circuit_above) rfl
    exact ⟨_, fd, He.meth_ok (c.fact 15 (f := .meth "Circuit" "above") rfl), F, F.bindsN fun _ _ _ _ _ _ us hl => match us, hl with | [_, _], _ => rfl⟩
  have D_Circuit_parts : Dm K (He.ga K "Circuit") "parts" "Circuit.parts" ["self"] s_Circuit_parts := by
    obtain ⟨fd, F⟩ := c.def_ 15 (d := dd_Circuit_parts) rfl
    exact ⟨_, fd, He.meth_ok (c.fact 16 (f := .meth "Circuit" "parts") rfl), F, F.bindsN fun _ _ _ _ _ _ us hl => match us, hl with | [_], _ => rfl⟩
  have D_is_integer : Dx K mg "is_integer" ["value", "least", "greatest"] s_is_integer := by
    obtain ⟨fd, F⟩ := c.def_ 16 (d := dd_is_integer) rfl
    exact ⟨_, fd, He.glo_ok X G (c.fact 17 (f := .glo "is_integer") rfl), F, F.bindsN fun _ _ _ _ _ _ us hl => match us, hl with | [_, _, _], _ => rfl⟩
  have D_is_bit : Dx K mg "is_bit" ["value"] s_is_bit := by
    obtain ⟨fd, F⟩ := c.def_ 17 (d := dd_is_bit) rfl
    exact ⟨_, fd, He.glo_ok X G (c.fact 18 (f := .glo "is_bit") rfl), F, F.bindsN fun _ _ _ _ _ _ us hl => match us, hl with | [_], _ => rfl⟩
  have D_is_line : Dx K mg "_is_line" ["circuit", "value"] s_is_line := by
    obtain ⟨fd, F⟩ := c.def_ 18 (d := dd_is_line) rfl
    exact ⟨_, fd, He.glo_ok X G (c.fact 19 (f := .glo "_is_line") rfl), F, F.bindsN fun _ _ _ _ _ _ us hl => match us, hl with | [_, _], _ => rfl⟩
  have D_is_stem : Dx K mg "_is_stem" ["circuit", "line", "value"] s_is_stem := by
    obtain ⟨fd, F⟩ := c.def_ 19 (d := dd_is_stem) rfl
    exact ⟨_, fd, He.glo_ok X G (c.fact 20 (f := .glo "_is_stem") rfl), F, F.bindsN fun _ _ _ _ _ _ us hl => match us, hl with | [_, _, _], _ => rfl⟩
  have D_is_pin : Dx K mg "_is_pin" ["circuit", "line", "index", "value"] s_is_pin := by
    obtain ⟨fd, F⟩ := c.def_ 20 (d := dd_is_pin) rfl
    exact ⟨_, fd, He.glo_ok X G (c.fact 21 (f := .glo "_is_pin") rfl), F, F.bindsN fun _ _ _ _ _ _ us hl => match us, hl with | [_, _, _, _], _ => rfl⟩
  have D_is_short : Dx K mg "_is_short" ["circuit", "one", "other", "kind"] s_is_short := by
    obtain ⟨fd, F⟩ := c.def_ 21 (d := dd_is_short) rfl
    exact ⟨_, fd, He.glo_ok X G (c.fact 22 (f := .glo "_is_short") rfl), F, F.bindsN fun _ _ _ _ _ _ us hl => match us, hl with | [_, _, _, _], _ => rfl⟩
  have D_is_break : Dx K mg "is_break" ["circuit", "value"] s_is_break := by
    obtain ⟨fd, F⟩ := c.def_ 22 (d := dd_is_break) rfl
    exact ⟨_, fd, He.glo_ok X G (c.fact 23 (f := .glo "is_break") rfl), F, F.bindsN fun _ _ _ _ _ _ us hl => match us, hl with | [_, _], _ => rfl⟩
  have D_check_version : Dx K mg "check_version" ["circuit", "version"] s_check_version := by
    obtain ⟨fd, F⟩ := c.def_ 23 (d := dd_check_version) rfl
    exact ⟨_, fd, He.glo_ok X G (c.fact 24 (f := .glo "check_version") rfl), F, F.bindsN fun _ _ _ _ _ _ us hl => match us, hl with | [_, _], _ => rfl⟩
  have D_are_bits : Dx K mg "are_bits" ["value", "count"] s_are_bits := by
    obtain ⟨fd, F⟩ := c.def_ 24 (d := dd_are_bits) rfl
    exact ⟨_, fd, He.glo_ok X G (c.fact 25 (f := .glo "are_bits") rfl), F, F.bindsN fun _ _ _ _ _ _ us hl => match us, hl with | [_, _], _ => rfl⟩
  have D_check_pattern : Dx K mg "check_pattern" ["circuit", "pattern"] s_check_pattern := by
    obtain ⟨fd, F⟩ := c.def_ 25 (d := dd_check_pattern) rfl
    exact ⟨_, fd, He.glo_ok X G (c.fact 26 (f := .glo "check_pattern") rfl), F, F.bindsN fun _ _ _ _ _ _ us hl => match us, hl with | [_, _], _ => rfl⟩
  have D_gate_value : Dx K mg "gate_value" ["kind", "bits"] s_gate_value := by
    obtain ⟨fd, F⟩ := c.def_ 26 (d := dd_gate_value) rfl
    exact ⟨_, fd, He.glo_ok X G (c.fact 27 (f := .glo "gate_value") rfl), F, F.bindsN fun _ _ _ _ _ _ us hl => match us, hl with | [_, _], _ => rfl⟩
  have D_forced : Dx K mg "_forced" ["circuit", "version", "pattern"] s_forced := by
    obtain ⟨fd, F⟩ := c.def_ 27 (d := dd_forced) rfl
    exact ⟨_, fd, He.glo_ok X G (c.fact 28 (f := .glo "_forced") rfl), F, F.bindsN fun _ _ _ _ _ _ us hl => match us, hl with | [_, _, _], _ => rfl⟩
  have D_u_values : Dx K mg "_values" ["circuit", "version", "pattern"] s_u_values := by
    obtain ⟨fd, F⟩ := c.def_ 28 (d := dd_u_values) rfl
    exact ⟨_, fd, He.glo_ok X G (c.fact 29 (f := .glo "_values") rfl), F, F.bindsN fun _ _ _ _ _ _ us hl => match us, hl with | [_, _, _], _ => rfl⟩
  have D_values : Dx K mg "values" ["circuit", "version", "pattern"] s_values := by
    obtain ⟨fd, F⟩ := c.def_ 29 (d := dd_values) rfl
    exact ⟨_, fd, He.glo_ok X G (c.fact 30 (f := .glo "values") rfl), F, F.bindsN fun _ _ _ _ _ _ us hl => match us, hl with | [_, _, _], _ => rfl⟩
  have D_response : Dx K mg "response" ["circuit", "version", "pattern"] s_response := by
    obtain ⟨fd, F⟩ := c.def_ 30 (d := dd_response) rfl
    exact ⟨_, fd, He.glo_ok X G (c.fact 31 (f := .glo "response") rfl), F, F.bindsN fun _ _ _ _ _ _ us hl => match us, hl with | [_, _, _], _ => rfl⟩
  have D_chains : Dx K mg "chains" ["circuit", "count"] s_chains := by
    obtain ⟨fd, F⟩ := c.def_ 31 (d := dd_chains) rfl
    exact ⟨_, fd, He.glo_ok X G (c.fact 32 (f := .glo "chains") rfl), F, F.bindsN fun _ _ _ _ _ _ us hl => match us, hl with | [_, _], _ => rfl⟩
  have D_check_bits : Dx K mg "_check_bits" ["bits", "count"] s_check_bits := by
    obtain ⟨fd, F⟩ := c.def_ 32 (d := dd_check_bits) rfl
    exact ⟨_, fd, He.glo_ok X G (c.fact 33 (f := .glo "_check_bits") rfl), F, F.bindsN fun _ _ _ _ _ _ us hl => match us, hl with | [_, _], _ => rfl⟩
  have D_Tester_init : Di K mg (He.ga K "Tester") "Tester" "Tester.__init__" ["self", "circuit", "version", "count", "start"] s_Tester_init := by
    obtain ⟨fd, F⟩ := c.def_ 33 (d := dd_Tester_init) rfl
    exact ⟨_, fd, He.glo_ok X G (c.fact 34 (f := .glo "Tester") rfl), He.mkr_ok (c.fact 35 (f := .mkr "Tester") rfl), F, F.bindsN fun _ _ _ _ _ _ us hl => match us, hl with | [_, _, _, _, _], _ => rfl⟩
  have D_Tester_stored : Dm K (He.ga K "Tester") "stored" "Tester.stored" ["self"] s_Tester_stored := by
    obtain ⟨fd, F⟩ := c.def_ 34 (d := dd_Tester_stored) rfl
    exact ⟨_, fd, He.meth_ok (c.fact 36 (f := .meth "Tester" "stored") rfl), F, F.bindsN fun _ _ _ _ _ _ us hl => match us, hl with | [_], _ => rfl⟩
  have D_Tester_shift : Dm K (He.ga K "Tester") "shift" "Tester.shift" ["self", "bits"] s_Tester_shift := by
    obtain ⟨fd, F⟩ := c.def_ 35 (d := dd_Tester_shift) rfl
    exact ⟨_, fd, He.meth_ok (c.fact 37 (f := .meth "Tester" "shift") rfl), F, F.bindsN fun _ _ _ _ _ _ us hl => match us, hl with | [_, _], _ => rfl⟩
  have D_Testerresponse : Dm K (He.ga K "Tester") "_response" "Tester._response" ["self", "inputs"] s_Testerresponse := by
    obtain ⟨fd, F⟩ := c.def_ 36 (d := dd_Testerresponse) rfl
    exact ⟨_, fd, He.meth_ok (c.fact 38 (f := .meth "Tester" "_response") rfl), F, F.bindsN fun _ _ _ _ _ _ us hl => match us, hl with | [_, _], _ => rfl⟩
  have D_Tester_clock : Dm K (He.ga K "Tester") "clock" "Tester.clock" ["self", "inputs"] s_Tester_clock := by
    obtain ⟨fd, F⟩ := c.def_ 37 (d := dd_Tester_clock) rfl
    exact ⟨_, fd, He.meth_ok (c.fact 39 (f := .meth "Tester" "clock") rfl), F, F.bindsN fun _ _ _ _ _ _ us hl => match us, hl with | [_, _], _ => rfl⟩
  have D_program_of : Dx K mg "program_of" ["circuit", "count", "patterns"] s_program_of := by
    obtain ⟨fd, F⟩ := c.def_ 38 (d := dd_program_of) rfl
    exact ⟨_, fd, He.glo_ok X G (c.fact 40 (f := .glo "program_of") rfl), F, F.bindsN fun _ _ _ _ _ _ us hl => match us, hl with | [_, _, _], _ => rfl⟩
  have D_law_draws : Dx K mg "_law_draws" ["script"] s_law_draws := by
    obtain ⟨fd, F⟩ := c.def_ 39 (d := dd_law_draws) rfl
    exact ⟨_, fd, He.glo_ok X G (c.fact 41 (f := .glo "_law_draws") rfl), F, F.bindsN fun _ _ _ _ _ _ us hl => match us, hl with | [_], _ => rfl⟩
  have D_law_draw : Dx K mg "_law_draw" ["draws", "limit"] s_law_draw := by
    obtain ⟨fd, F⟩ := c.def_ 40 (d := dd_law_draw) rfl
    exact ⟨_, fd, He.glo_ok X G (c.fact 42 (f := .glo "_law_draw") rfl), F, F.bindsN fun _ _ _ _ _ _ us hl => match us, hl with | [_, _], _ => rfl⟩
  have D_law_same : Dx K mg "_law_same" ["actual", "expected"] s_law_same := by
    obtain ⟨fd, F⟩ := c.def_ 41 (d := dd_law_same) rfl
    exact ⟨_, fd, He.glo_ok X G (c.fact 43 (f := .glo "_law_same") rfl), F, F.bindsN fun _ _ _ _ _ _ us hl => match us, hl with | [_, _], _ => rfl⟩
  have D_law_chains : Dx K mg "_law_chains" ["size", "count"] s_law_chains := by
    obtain ⟨fd, F⟩ := c.def_ 42 (d := dd_law_chains) rfl
    exact ⟨_, fd, He.glo_ok X G (c.fact 44 (f := .glo "_law_chains") rfl), F, F.bindsN fun _ _ _ _ _ _ us hl => match us, hl with | [_, _], _ => rfl⟩
  have D_law_shifts : Dx K mg "_law_shifts" ["chains_v", "bits"] s_law_shifts := by
    obtain ⟨fd, F⟩ := c.def_ 43 (d := dd_law_shifts) rfl
    exact ⟨_, fd, He.glo_ok X G (c.fact 45 (f := .glo "_law_shifts") rfl), F, F.bindsN fun _ _ _ _ _ _ us hl => match us, hl with | [_, _], _ => rfl⟩
  have D_law : Dx K mg "law" ["script"] s_law := by
    obtain ⟨fd, F⟩ := c.def_ 44 (d := dd_law) rfl
    exact ⟨_, fd, He.glo_ok X G (c.fact 46 (f := .glo "law") rfl), F, F.bindsN fun _ _ _ _ _ _ us hl => match us, hl with | [_], _ => rfl⟩
  have G_is_name := k_is_name (P := P) (w := w) (base := base) T D_is_name 
  have G__may_have := k_may_have (P := P) (w := w) (base := base) T D_may_have 
  have G__are_names := k_are_names (P := P) (w := w) (base := base) T D_are_names G_is_name
  have G__is_register := k_is_register (P := P) (w := w) (base := base) T D_is_register G__are_names
  have G_is_gate := k_is_gate (P := P) (w := w) (base := base) T D_is_gate G__may_have G__are_names
  have G__check_form := k_check_form (P := P) (w := w) (base := base) T D_check_form G__are_names G__is_register G_is_gate X_BadCircuit
  have G__check_driven_once := k_check_driven_once (P := P) (w := w) (base := base) T D_check_driven_once X_BadCircuit
  have G__check_known := k_check_known (P := P) (w := w) (base := base) T D_check_known X_BadCircuit
  have G__check_size := k_check_size (P := P) (w := w) (base := base) T D_check_size X_BadCircuit
  have G__in_order := k_in_order (P := P) (w := w) (base := base) T D_in_order X_BadCircuit
  have M_Circuit_sources := k_Circuit_sources (P := P) (w := w) (base := base) T D_Circuit_sources 
  have M_Circuit_lines := k_Circuit_lines (P := P) (w := w) (base := base) T D_Circuit_lines M_Circuit_sources
  have M_Circuit_sinks := k_Circuit_sinks (P := P) (w := w) (base := base) T D_Circuit_sinks 
  have I_Circuit := k_Circuit_init (P := P) (w := w) (base := base) T D_Circuit_init G__check_form G__check_driven_once M_Circuit_lines G__check_known G__check_size M_Circuit_sources G__in_order
  have I_Circuit := ix_imp I_Circuit (ri_Circuit true true true true)
  have M_Circuit_above := k_Circuit_above (P := P) (w := w) (base := base) T D_Circuit_above 
  have M_Circuit_parts := k_Circuit_parts (P := P) (w := w) (base := base) T D_Circuit_parts 
  have G_is_integer := k_is_integer (P := P) (w := w) (base := base) T D_is_integer 
  have G_is_bit := k_is_bit (P := P) (w := w) (base := base) T D_is_bit G_is_integer
  have G__is_line := k_is_line (P := P) (w := w) (base := base) T D_is_line G_is_name M_Circuit_lines
  have G__is_stem := k_is_stem (P := P) (w := w) (base := base) T D_is_stem G__is_line G_is_bit
  have G__is_pin := k_is_pin (P := P) (w := w) (base := base) T D_is_pin G_is_name G_is_integer G_is_bit
  have G__is_short := k_is_short (P := P) (w := w) (base := base) T D_is_short G__is_line M_Circuit_above
  have G_is_break := k_is_break (P := P) (w := w) (base := base) T D_is_break G__is_stem G__is_pin G__is_short
  have G_check_version := k_check_version (P := P) (w := w) (base := base) T D_check_version G_is_break X_BadBreak
  have G_are_bits := k_are_bits (P := P) (w := w) (base := base) T D_are_bits (fx_imp G_is_bit z_is_bit)
  have G_check_pattern := k_check_pattern (P := P) (w := w) (base := base) T D_check_pattern G_are_bits (mx_imp M_Circuit_sources z_Circuit_sources) X_BadPattern
  have G_gate_value := k_gate_value (P := P) (w := w) (base := base) T D_gate_value 
  have G__values := r0_u_values (P := P) (w := w) (base := base) D_u_values
  have G__forced := k_forced (P := P) (w := w) (base := base) 0 T D_forced G__values G_gate_value
  have G__values := k_u_values (P := P) (w := w) (base := base) 0 T D_u_values G__forced (mx_imp M_Circuit_sources z_Circuit_sources) G_gate_value
  have G__forced := k_forced (P := P) (w := w) (base := base) 1 T D_forced G__values G_gate_value
  have G__values := k_u_values (P := P) (w := w) (base := base) 1 T D_u_values G__forced (mx_imp M_Circuit_sources z_Circuit_sources) G_gate_value
  have G_values := k_values (P := P) (w := w) (base := base) T D_values (fx_imp G_check_version z_check_version) G_check_pattern (Fx.mono G__values (by decide))
  have G_response := k_response (P := P) (w := w) (base := base) T D_response G_values (mx_imp M_Circuit_sinks z_Circuit_sinks)
  have G_chains := k_chains (P := P) (w := w) (base := base) T D_chains (fx_imp G_is_integer z_is_integer) X_BadTester
  have G__check_bits := k_check_bits (P := P) (w := w) (base := base) T D_check_bits G_are_bits X_BadTester
  have I_Tester := k_Tester_init (P := P) (w := w) (base := base) T D_Tester_init (fx_imp G_check_version z_check_version) G__check_bits G_chains
  have M_Tester_stored := k_Tester_stored (P := P) (w := w) (base := base) T D_Tester_stored 
  have M_Tester_shift := k_Tester_shift (P := P) (w := w) (base := base) T D_Tester_shift G__check_bits
  have M_Testerresponse := k_Testerresponse (P := P) (w := w) (base := base) T D_Testerresponse G__check_bits G_response
  have M_Tester_clock := k_Tester_clock (P := P) (w := w) (base := base) T D_Tester_clock M_Testerresponse
  have G_program_of := k_program_of (P := P) (w := w) (base := base) T D_program_of G_chains G_check_pattern X_BadTester
  have G__law_draws := k_law_draws (P := P) (w := w) (base := base) T D_law_draws 
  have G__law_draw := k_law_draw (P := P) (w := w) (base := base) T D_law_draw 
  have q0 := same0 (P := P) (w := w) (base := base) D_law_same
  have q1 := k_law_same (P := P) (w := w) (base := base) 0 T D_law_same q0
  have q2 := k_law_same (P := P) (w := w) (base := base) 1 T D_law_same q1
  have q3 := k_law_same (P := P) (w := w) (base := base) 2 T D_law_same q2
  have q4 := k_law_same (P := P) (w := w) (base := base) 3 T D_law_same q3
  have q5 := k_law_same (P := P) (w := w) (base := base) 4 T D_law_same q4
  have q6 := k_law_same (P := P) (w := w) (base := base) 5 T D_law_same q5
  have G__law_same := q6
  have G__law_chains := k_law_chains (P := P) (w := w) (base := base) T D_law_chains 
  have G__law_shifts := k_law_shifts (P := P) (w := w) (base := base) T D_law_shifts 
  exact k_law T D_law G__law_draws G__law_draw I_Circuit G__law_chains G__law_shifts G_program_of G__law_same I_Tester M_Tester_shift M_Tester_stored M_Tester_clock
end
end CC
set_option maxHeartbeats 0
namespace CC
open PySem PySem.Spec PyProof.Rows L2 Qw Mw
open Pw (Dt Rp RpL Wk)
theorem ints_rel {K : PySem.W.Frag} {F : Hp} : ∀ ns : List Int, RpL K F (ns.map Dt.int) (ns.map V.int)
  | [] => rfl
  | n :: ns => ⟨V.int n, ns.map V.int, rfl, rfl, ints_rel ns⟩
theorem quiet {P : Program} {w : World} {K : PySem.W.Frag} {mg : Str → Option Value} {base : Heap} {k : Nat} {f : Addr} {fd : FuncData} {ps : List Str} {sp : Sp} (F : FnOk P w K mg base (L2.CX P w) k f fd ps sp) : FnOk P w K mg base CX0 k f fd ps (fun vs H Q _ => sp vs H Q E0) :=
  ⟨fun vs H Q _ h => F.len vs H Q E0 h, fun A outer s H args us vs Q E hr he hb hv h => codeAny_mono (F.run A outer s H args us vs Q E0 hr he hb hv h) fun r s' z => by
    cases r with
    | error e =>
      obtain ⟨_, _, _, _, _, _, _, _, _, _, _, _, q⟩ := (show L2.CX P w outer H s E0 e s' from z)
      exact q.elim
    | ok v => cases v <;> exact z⟩
theorem facts {P : Program} {w : World} {K : PySem.W.Frag} {h : Heap} {mg : Str → Option Value} {f : Addr} (X : K.In h) (G : h.Ns mainGlobals mg) (hfa : mg ("law" : Str) = some (.ref f)) (c : He.SaysD faL fnL K) (m : exB K = true) :
    ∀ base : Heap, ∃ fd : FuncData, FunD K "law" "law" (defArgs s_law) (defBody s_law) (defScope s_law) [] [] f fd ∧ FnOk P w K mg base CX0 16 f fd ["script"] (fun vs H Q _ => spR P w K (R_law K) vs H Q E0) := by
  intro base
  obtain ⟨f', fd', h1, F, h4⟩ := lawOk (P := P) (w := w) X G c m base
  have e : f' = f := by
    rw [hfa] at h1
    exact (Value.ref.inj (Option.some.inj h1)).symm
  subst e
  exact ⟨fd', F, quiet h4⟩
theorem one {K : PySem.W.Frag} {f : Addr} {fd fd' : FuncData} (F : FunD K "law" "law" (defArgs s_law) (defBody s_law) (defScope s_law) [] [] f fd) (F' : FunD K "law" "law" (defArgs s_law) (defBody s_law) (defScope s_law) [] [] f fd') : fd = fd' := by
  obtain ⟨_, _, _, _, _, _, _, _, _, _, _, l1, _⟩ := F.ex
  obtain ⟨_, _, _, _, _, _, _, _, _, _, _, l2, _⟩ := F'.ex
  rw [l1] at l2
  have e3 := Option.some.inj l2
  injection e3 with _ _ e4 _
  injection e4
theorem facts1 {P : Program} {w : World} {K : PySem.W.Frag} {h : Heap} {mg : Str → Option Value} {f : Addr} (X : K.In h) (G : h.Ns mainGlobals mg) (hfa : mg ("law" : Str) = some (.ref f)) (c : He.SaysD faL fnL K) (m : exB K = true) :
    ∃ fd : FuncData, (∀ (s : Shared) (v : Value), BindsTo s fd ⟨[v], []⟩ [("script", v)]) ∧ ∀ base : Heap, FnOk P w K mg base CX0 16 f fd ["script"] (fun vs H Q _ => spR P w K (R_law K) vs H Q E0) := by
  obtain ⟨fd, F, _⟩ := facts (P := P) (w := w) X G hfa c m h
  have b := FunD.bindsA (ps := ["script"]) F fun _ _ _ _ _ _ us hl => match us, hl with | [_], _ => rfl
  refine ⟨fd, fun s v => b s [v] rfl, fun base => ?_⟩
  obtain ⟨fd', F', h4⟩ := facts (P := P) (w := w) X G hfa c m base
  rw [one F F']
  exact h4
end CC
open PySem PySem.W PySem.Calls PyProof.Rows
theorem PySem.Challenge.cw_probewright_k54_programs_of_patterns_holds : PySem.Challenge.rw_probewright_k54_programs_of_patterns.Holds := by
  w_on; o_law
  refine HandSHeadRun.head_any (r := OpenLaw.row PySem.Challenge.rw_probewright_k54_programs_of_patterns) (q := view (OpenLaw.row PySem.Challenge.rw_probewright_k54_programs_of_patterns).prog [57]) (H := CC.hk) (ob := CC.ob) (M := 12000) (loose := CC.loose1) (d := HandSHeadRun.topDef (OpenLaw.row PySem.Challenge.rw_probewright_k54_programs_of_patterns).prog 57) (kwd := []) CC.ob_eq
    (by kernel_rfl) (fun s => by kernel_rfl) CC.run (by kernel_rfl) (by kernel_rfl) (by kernel_rfl) (by rfl) (by first | assumption | decide +kernel) (by decide +kernel) ⟨rfl, rfl, rfl, rfl, rfl, by decide +kernel⟩ ?hw ?hc
  case hw => w_witness2
  case hc =>
    refine L2.walk_ofE (l := PySem.Challenge.rw_probewright_k54_programs_of_patterns) (n := 63) (k := 16) (x := "script") (CX := L2.CX0) rfl (by decide) (by kernel_rfl) ⟨rfl, by decide, by decide⟩ ?F (fun _ _ _ _ z => z)
    intro w mg fa h Y G hmg0
    obtain ⟨K, KX, c⟩ := Y
    have hmg : mg ("law" : PySem.Str) = some (.ref fa) := by
      have e : (HandSHeadRun.topDef (OpenLaw.row PySem.Challenge.rw_probewright_k54_programs_of_patterns).prog 57).name = ("law" : PySem.Str) := by kernel_rfl
      rw [← e]
      exact hmg0
    obtain ⟨fd, hb, hF⟩ := CC.facts1 (P := (PySem.Challenge.rw_probewright_k54_programs_of_patterns).prog) (w := w) KX G hmg c.t.d c.more
    refine ⟨K, fd, _, KX, hb, fun H a ns hl HB hS => ?_, fun base _ _ => hF base⟩
    exact ⟨H, [.lst (ns.map Pw.Dt.int)], .d (.bl true), Evl.Ex.refl H, ⟨.ref a, [], rfl, ⟨a, ns.map L2.V.int, rfl, hS, CC.ints_rel ns⟩, rfl⟩, ⟨(ns, ()), rfl, (by show Mw.Got K (CC.m_law ns) _ _; rw [CC.law_true ns ]; rfl)⟩, fun v F' H' _ r => r⟩
